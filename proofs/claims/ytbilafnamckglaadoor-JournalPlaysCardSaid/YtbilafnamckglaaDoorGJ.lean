/- Runs over unknown values, told by the kernel: part GJ. -/
import Derived.Test.YtbilafnamckglaaDoorGI
noncomputable section
open Int (ofNat)
set_option linter.unusedSimpArgs false
set_option linter.unusedVariables false
set_option maxRecDepth 20000
namespace Go.Proofs.Jn
open Go Go.Sim Go.Proofs Go.Proofs.Cd Go.Proofs.St Go.Proofs.Cl Go.Proofs.YtbilafnamckglaaDoor
abbrev tt1 (x:Int):Prop:=(!!decide (x=x))=true
abbrev tt0 (x:Int):Prop:=(!decide (x=x))=false
theorem tt1_ (x:Int):tt1 x:=by unfold tt1;simp
theorem tt0_ (x:Int):tt0 x:=by unfold tt0;simp
abbrev rjJ (j:JS) (u:Nat):AObj:=rjO j.gen j.area j.recs u j.dead
abbrev pjL (N:Nat) (KK KZ:Nat→Int) (TT:Nat→Bool) (BL:Nat→Nat) (BB:Nat→Nat→Nat) (LN:Nat→Nat) (LM:Nat→Nat→Nat) (LB:Nat→Nat→Nat→Nat) (x:Int):List (Nat×AV):=[(3,.p 0 0),(5,.p 1 0),(7,.p 3 0),(10,.p 4 0),(51,.sv 5 N (nvF KK KZ TT BL BB LN LM LB)),(52,.i .i64 (ofNat N)),(53,.i .i64 x)]
abbrev pjR (s:SS) (j:JS) (u:Nat):List (Option AObj):=[some s.o,some (rsL2 s),some (rsR s),some j.o,some (rjL j u),some (rsP s)]
abbrev wJu (s:SS) (j:JS) (u:Nat):List (Option AObj):=[some (rsA 3 s),some (rsR s),some (rjJ j u),some (rsP s)]
theorem pjA1_lq (s:SS) (j:JS) (u:Nat) (S:SS) (J:JS) (U:Nat) (E:Int) (N i:Nat) (KK KZ:Nat→Int) (TT:Nat→Bool) (BL:Nat→Nat) (BB:Nat→Nat→Nat) (LN:Nat→Nat) (LM:Nat→Nat→Nat) (LB:Nat→Nat→Nat→Nat) (h1:decide (ofNat i<ofNat N)=true) (h2:decide (200<ofNat i)=false) (q1:decide (KK i=1)=false) (q2:decide (KK i=2)=false) (q3:decide (KK i=3)=false) (q4:decide (KK i=4)=false):LD PG (loopAt PG 4 0) 202 0 (pjL N KK KZ TT BL BB LN LM LB (ofNat i)) (pjR s j u) (.t (.f (.f (.f (.f (.f (.cal [] (.sv 1 (BL i) (byF (BB (Int.toNat (ofNat i))))) [] (.cal [0,3] (.i .i64 E) [.set (SS.o S),.set (JS.o J)] (.cal [1,2,4,5] (.i .i64 E) [.set (rsA 4 S),.set (rsR S),.set (rjJ J U),.gone,.set (rsP S)] (.t (.t (.cal [0,3] (.i .i64 (ofNat (JS.recs J))) [.keep,.keep] (.t (.t (.t (.t (.t (.f (.t (.t (.cal [0,3] (.i .i64 (JS.room J)) [.keep,.keep] (.t (.t (.cal [1,2,4,7] (.i .i64 (JS.room J)) [.keep,.keep,.keep,.keep] (.t (.f (.t (.t (.cal [0,3] (.i .i64 (ofNat (JS.gen J))) [.keep,.keep] (.t (.t (.t (.t (.t (.f (.t (.t (.cal [0] (.i .i64 (ofNat (SS.wr S))) [.keep] (.t (.t (.t (.t (.t (.f (.t (.t (.cal [0] (.b (SS.off S)) [.keep] (.t (.t (.t (.t (.t (.f (.f .z)))))))))))))))))))))))))))))))))))))))))))))))))))))) .nrm [0,1,2,3,4,7] (pjL N KK KZ TT BL BB LN LM LB (ofNat i+1)) (pjR S J U) 8 (fun Lf=>decide (ofNat i<ofNat N)=true∧(0≤ofNat i∧ofNat i<↑N)∧True∧decide (200<ofNat i)=false∧True∧decide (KK i=1)=false∧decide (KK i=2)=false∧decide (KK i=3)=false∧decide (KK i=4)=false∧True∧Con PG 25 [.sv 1 (BL i) (byF (BB (Int.toNat (ofNat i))))] [] (.sv 1 (BL i) (byF (BB (Int.toNat (ofNat i))))) []∧Con PG 24 [.p 1 0,.sv 1 (BL i) (byF (BB (Int.toNat (ofNat i))))] [some (SS.o s),some (JS.o j)] (.i .i64 E) [.set (SS.o S),.set (JS.o J)]∧True∧Con PG 26 [.p 2 0,.sv 1 (BL i) (byF (BB (Int.toNat (ofNat i))))] (wJu s j u) (.i .i64 E) [.set (rsA 4 S),.set (rsR S),.set (rjJ J U),.gone,.set (rsP S)]∧True∧tt1 (E)∧tt1 (E)∧Con PG 27 [.p 1 0] [some (SS.o S),some (JS.o J)] (.i .i64 (ofNat (JS.recs J))) [.keep,.keep]∧tt1 (E)∧tt1 (E)∧tt1 (E)∧True∧tt1 (E)∧tt1 (E)∧tt0 (E)∧tt1 (ofNat (JS.recs J))∧tt1 (ofNat (JS.recs J))∧Con PG 28 [.p 1 0] [some (SS.o S),some (JS.o J)] (.i .i64 (JS.room J)) [.keep,.keep]∧tt1 (ofNat (JS.recs J))∧tt1 (ofNat (JS.recs J))∧Con PG 29 [.p 2 0] (wJu S J U) (.i .i64 (JS.room J)) [.keep,.keep,.keep,.keep]∧tt1 (ofNat (JS.recs J))∧tt0 (ofNat (JS.recs J))∧tt1 (JS.room J)∧tt1 (JS.room J)∧Con PG 30 [.p 1 0] [some (SS.o S),some (JS.o J)] (.i .i64 (ofNat (JS.gen J))) [.keep,.keep]∧tt1 (JS.room J)∧tt1 (JS.room J)∧tt1 (JS.room J)∧True∧tt1 (JS.room J)∧tt1 (JS.room J)∧tt0 (JS.room J)∧tt1 (ofNat (JS.gen J))∧tt1 (ofNat (JS.gen J))∧Con PG 31 [.p 0 0] [some (SS.o S)] (.i .i64 (ofNat (SS.wr S))) [.keep]∧tt1 (ofNat (JS.gen J))∧tt1 (ofNat (JS.gen J))∧tt1 (ofNat (JS.gen J))∧True∧tt1 (ofNat (JS.gen J))∧tt1 (ofNat (JS.gen J))∧tt0 (ofNat (JS.gen J))∧tt1 (ofNat (SS.wr S))∧tt1 (ofNat (SS.wr S))∧Con PG 32 [.p 0 0] [some (SS.o S)] (.b (SS.off S)) [.keep]∧tt1 (ofNat (SS.wr S))∧tt1 (ofNat (SS.wr S))∧tt1 (ofNat (SS.wr S))∧True∧tt1 (ofNat (SS.wr S))∧tt1 (ofNat (SS.wr S))∧True∧tt0 (ofNat (SS.wr S))∧(!SS.off S == SS.off S)=false∧rg (ofNat i+1)∧Lf):=by unfold LD LQ;kernel_rfl
theorem pjA2_lq (s:SS) (j:JS) (u:Nat) (J:JS) (U:Nat) (E:Int) (N i:Nat) (KK KZ:Nat→Int) (TT:Nat→Bool) (BL:Nat→Nat) (BB:Nat→Nat→Nat) (LN:Nat→Nat) (LM:Nat→Nat→Nat) (LB:Nat→Nat→Nat→Nat) (h1:decide (ofNat i<ofNat N)=true) (h2:decide (200<ofNat i)=false) (q1:decide (KK i=1)=false) (q2:decide (KK i=2)=false) (q3:decide (KK i=3)=false) (q4:decide (KK i=4)=false):LD PG (loopAt PG 4 0) 202 0 (pjL N KK KZ TT BL BB LN LM LB (ofNat i)) (pjR s j u) (.t (.f (.f (.f (.f (.f (.cal [] (.sv 1 (BL i) (byF (BB (Int.toNat (ofNat i))))) [] (.cal [0,3] (.i .i64 E) [.keep,.set (JS.o J)] (.cal [1,2,4,5] (.i .i64 E) [.keep,.keep,.set (rjJ J U),.keep] (.t (.t (.cal [0,3] (.i .i64 (ofNat (JS.recs J))) [.keep,.keep] (.t (.t (.t (.t (.t (.f (.t (.t (.cal [0,3] (.i .i64 (JS.room J)) [.keep,.keep] (.t (.t (.cal [1,2,4,5] (.i .i64 (JS.room J)) [.keep,.keep,.keep,.keep] (.t (.f (.t (.t (.cal [0,3] (.i .i64 (ofNat (JS.gen J))) [.keep,.keep] (.t (.t (.t (.t (.t (.f (.t (.t (.cal [0] (.i .i64 (ofNat (SS.wr s))) [.keep] (.t (.t (.t (.t (.t (.f (.t (.t (.cal [0] (.b (SS.off s)) [.keep] (.t (.t (.t (.t (.t (.f (.f .z)))))))))))))))))))))))))))))))))))))))))))))))))))))) .nrm [0,1,2,3,4,5] (pjL N KK KZ TT BL BB LN LM LB (ofNat i+1)) (pjR s J U) 7 (fun Lf=>decide (ofNat i<ofNat N)=true∧(0≤ofNat i∧ofNat i<↑N)∧True∧decide (200<ofNat i)=false∧True∧decide (KK i=1)=false∧decide (KK i=2)=false∧decide (KK i=3)=false∧decide (KK i=4)=false∧True∧Con PG 25 [.sv 1 (BL i) (byF (BB (Int.toNat (ofNat i))))] [] (.sv 1 (BL i) (byF (BB (Int.toNat (ofNat i))))) []∧Con PG 24 [.p 1 0,.sv 1 (BL i) (byF (BB (Int.toNat (ofNat i))))] [some (SS.o s),some (JS.o j)] (.i .i64 E) [.keep,.set (JS.o J)]∧True∧Con PG 26 [.p 2 0,.sv 1 (BL i) (byF (BB (Int.toNat (ofNat i))))] (wJu s j u) (.i .i64 E) [.keep,.keep,.set (rjJ J U),.keep]∧True∧tt1 (E)∧tt1 (E)∧Con PG 27 [.p 1 0] [some (SS.o s),some (JS.o J)] (.i .i64 (ofNat (JS.recs J))) [.keep,.keep]∧tt1 (E)∧tt1 (E)∧tt1 (E)∧True∧tt1 (E)∧tt1 (E)∧tt0 (E)∧tt1 (ofNat (JS.recs J))∧tt1 (ofNat (JS.recs J))∧Con PG 28 [.p 1 0] [some (SS.o s),some (JS.o J)] (.i .i64 (JS.room J)) [.keep,.keep]∧tt1 (ofNat (JS.recs J))∧tt1 (ofNat (JS.recs J))∧Con PG 29 [.p 2 0] (wJu s J U) (.i .i64 (JS.room J)) [.keep,.keep,.keep,.keep]∧tt1 (ofNat (JS.recs J))∧tt0 (ofNat (JS.recs J))∧tt1 (JS.room J)∧tt1 (JS.room J)∧Con PG 30 [.p 1 0] [some (SS.o s),some (JS.o J)] (.i .i64 (ofNat (JS.gen J))) [.keep,.keep]∧tt1 (JS.room J)∧tt1 (JS.room J)∧tt1 (JS.room J)∧True∧tt1 (JS.room J)∧tt1 (JS.room J)∧tt0 (JS.room J)∧tt1 (ofNat (JS.gen J))∧tt1 (ofNat (JS.gen J))∧Con PG 31 [.p 0 0] [some (SS.o s)] (.i .i64 (ofNat (SS.wr s))) [.keep]∧tt1 (ofNat (JS.gen J))∧tt1 (ofNat (JS.gen J))∧tt1 (ofNat (JS.gen J))∧True∧tt1 (ofNat (JS.gen J))∧tt1 (ofNat (JS.gen J))∧tt0 (ofNat (JS.gen J))∧tt1 (ofNat (SS.wr s))∧tt1 (ofNat (SS.wr s))∧Con PG 32 [.p 0 0] [some (SS.o s)] (.b (SS.off s)) [.keep]∧tt1 (ofNat (SS.wr s))∧tt1 (ofNat (SS.wr s))∧tt1 (ofNat (SS.wr s))∧True∧tt1 (ofNat (SS.wr s))∧tt1 (ofNat (SS.wr s))∧True∧tt0 (ofNat (SS.wr s))∧(!SS.off s == SS.off s)=false∧rg (ofNat i+1)∧Lf):=by unfold LD LQ;kernel_rfl
theorem pjR1_lq (s:SS) (j:JS) (u:Nat) (S:SS) (J:JS) (U:Nat) (E:Int) (N i:Nat) (KK KZ:Nat→Int) (TT:Nat→Bool) (BL:Nat→Nat) (BB:Nat→Nat→Nat) (LN:Nat→Nat) (LM:Nat→Nat→Nat) (LB:Nat→Nat→Nat→Nat) (h1:decide (ofNat i<ofNat N)=true) (h2:decide (200<ofNat i)=false) (q1:decide (KK i=1)=true):LD PG (loopAt PG 4 0) 202 0 (pjL N KK KZ TT BL BB LN LM LB (ofNat i)) (pjR s j u) (.t (.f (.t (.cal [] (.lr 0 1 0 (LN i) false) [.set (AObj.rows 38 1 (LN i) (recF (LM (Int.toNat (ofNat i))) (LB (Int.toNat (ofNat i)))))] (.cal [0,3,7] (.i .i64 E) [.set (SS.o S),.set (JS.o J),.gone] (.cal [1,2,4,5] (.i .i64 E) [.set (rsA 4 S),.set (rsR S),.set (rjJ J U),.gone,.set (rsP S)] (.t (.t (.cal [0,3] (.i .i64 (ofNat (JS.recs J))) [.keep,.keep] (.t (.t (.t (.t (.t (.f (.t (.t (.cal [0,3] (.i .i64 (JS.room J)) [.keep,.keep] (.t (.t (.cal [1,2,4,8] (.i .i64 (JS.room J)) [.keep,.keep,.keep,.keep] (.t (.f (.t (.t (.cal [0,3] (.i .i64 (ofNat (JS.gen J))) [.keep,.keep] (.t (.t (.t (.t (.t (.f (.t (.t (.cal [0] (.i .i64 (ofNat (SS.wr S))) [.keep] (.t (.t (.t (.t (.t (.f (.t (.t (.cal [0] (.b (SS.off S)) [.keep] (.t (.t (.t (.t (.t (.f (.f .z))))))))))))))))))))))))))))))))))))))))))))))))))) .nrm [0,1,2,3,4,8] (pjL N KK KZ TT BL BB LN LM LB (ofNat i+1)) (pjR S J U) 9 (fun Lf=>decide (ofNat i<ofNat N)=true∧(0≤ofNat i∧ofNat i<↑N)∧True∧decide (200<ofNat i)=false∧True∧decide (KK i=1)=true∧True∧Con PG 15 [.sv 1 (LN i) (recF (LM (Int.toNat (ofNat i))) (LB (Int.toNat (ofNat i))))] [] (.lr 0 1 0 (LN i) false) [.set (AObj.rows 38 1 (LN i) (recF (LM (Int.toNat (ofNat i))) (LB (Int.toNat (ofNat i)))))]∧Con PG 14 [.p 1 0,.lr 2 1 0 (LN i) false] [some (SS.o s),some (JS.o j),some (AObj.rows 38 1 (LN i) (recF (LM (Int.toNat (ofNat i))) (LB (Int.toNat (ofNat i)))))] (.i .i64 E) [.set (SS.o S),.set (JS.o J),.gone]∧True∧Con PG 16 [.p 2 0,.sv 1 (LN i) (recF (LM (Int.toNat (ofNat i))) (LB (Int.toNat (ofNat i))))] (wJu s j u) (.i .i64 E) [.set (rsA 4 S),.set (rsR S),.set (rjJ J U),.gone,.set (rsP S)]∧True∧tt1 (E)∧tt1 (E)∧Con PG 27 [.p 1 0] [some (SS.o S),some (JS.o J)] (.i .i64 (ofNat (JS.recs J))) [.keep,.keep]∧tt1 (E)∧tt1 (E)∧tt1 (E)∧True∧tt1 (E)∧tt1 (E)∧tt0 (E)∧tt1 (ofNat (JS.recs J))∧tt1 (ofNat (JS.recs J))∧Con PG 28 [.p 1 0] [some (SS.o S),some (JS.o J)] (.i .i64 (JS.room J)) [.keep,.keep]∧tt1 (ofNat (JS.recs J))∧tt1 (ofNat (JS.recs J))∧Con PG 29 [.p 2 0] (wJu S J U) (.i .i64 (JS.room J)) [.keep,.keep,.keep,.keep]∧tt1 (ofNat (JS.recs J))∧tt0 (ofNat (JS.recs J))∧tt1 (JS.room J)∧tt1 (JS.room J)∧Con PG 30 [.p 1 0] [some (SS.o S),some (JS.o J)] (.i .i64 (ofNat (JS.gen J))) [.keep,.keep]∧tt1 (JS.room J)∧tt1 (JS.room J)∧tt1 (JS.room J)∧True∧tt1 (JS.room J)∧tt1 (JS.room J)∧tt0 (JS.room J)∧tt1 (ofNat (JS.gen J))∧tt1 (ofNat (JS.gen J))∧Con PG 31 [.p 0 0] [some (SS.o S)] (.i .i64 (ofNat (SS.wr S))) [.keep]∧tt1 (ofNat (JS.gen J))∧tt1 (ofNat (JS.gen J))∧tt1 (ofNat (JS.gen J))∧True∧tt1 (ofNat (JS.gen J))∧tt1 (ofNat (JS.gen J))∧tt0 (ofNat (JS.gen J))∧tt1 (ofNat (SS.wr S))∧tt1 (ofNat (SS.wr S))∧Con PG 32 [.p 0 0] [some (SS.o S)] (.b (SS.off S)) [.keep]∧tt1 (ofNat (SS.wr S))∧tt1 (ofNat (SS.wr S))∧tt1 (ofNat (SS.wr S))∧True∧tt1 (ofNat (SS.wr S))∧tt1 (ofNat (SS.wr S))∧True∧tt0 (ofNat (SS.wr S))∧(!SS.off S == SS.off S)=false∧rg (ofNat i+1)∧Lf):=by unfold LD LQ;kernel_rfl
theorem pjR2_lq (s:SS) (j:JS) (u:Nat) (J:JS) (U:Nat) (E:Int) (N i:Nat) (KK KZ:Nat→Int) (TT:Nat→Bool) (BL:Nat→Nat) (BB:Nat→Nat→Nat) (LN:Nat→Nat) (LM:Nat→Nat→Nat) (LB:Nat→Nat→Nat→Nat) (h1:decide (ofNat i<ofNat N)=true) (h2:decide (200<ofNat i)=false) (q1:decide (KK i=1)=true):LD PG (loopAt PG 4 0) 202 0 (pjL N KK KZ TT BL BB LN LM LB (ofNat i)) (pjR s j u) (.t (.f (.t (.cal [] (.lr 0 1 0 (LN i) false) [.set (AObj.rows 38 1 (LN i) (recF (LM (Int.toNat (ofNat i))) (LB (Int.toNat (ofNat i)))))] (.cal [0,3,7] (.i .i64 E) [.keep,.set (JS.o J),.gone] (.cal [1,2,4,5] (.i .i64 E) [.keep,.keep,.set (rjJ J U),.keep] (.t (.t (.cal [0,3] (.i .i64 (ofNat (JS.recs J))) [.keep,.keep] (.t (.t (.t (.t (.t (.f (.t (.t (.cal [0,3] (.i .i64 (JS.room J)) [.keep,.keep] (.t (.t (.cal [1,2,4,5] (.i .i64 (JS.room J)) [.keep,.keep,.keep,.keep] (.t (.f (.t (.t (.cal [0,3] (.i .i64 (ofNat (JS.gen J))) [.keep,.keep] (.t (.t (.t (.t (.t (.f (.t (.t (.cal [0] (.i .i64 (ofNat (SS.wr s))) [.keep] (.t (.t (.t (.t (.t (.f (.t (.t (.cal [0] (.b (SS.off s)) [.keep] (.t (.t (.t (.t (.t (.f (.f .z))))))))))))))))))))))))))))))))))))))))))))))))))) .nrm [0,1,2,3,4,5] (pjL N KK KZ TT BL BB LN LM LB (ofNat i+1)) (pjR s J U) 8 (fun Lf=>decide (ofNat i<ofNat N)=true∧(0≤ofNat i∧ofNat i<↑N)∧True∧decide (200<ofNat i)=false∧True∧decide (KK i=1)=true∧True∧Con PG 15 [.sv 1 (LN i) (recF (LM (Int.toNat (ofNat i))) (LB (Int.toNat (ofNat i))))] [] (.lr 0 1 0 (LN i) false) [.set (AObj.rows 38 1 (LN i) (recF (LM (Int.toNat (ofNat i))) (LB (Int.toNat (ofNat i)))))]∧Con PG 14 [.p 1 0,.lr 2 1 0 (LN i) false] [some (SS.o s),some (JS.o j),some (AObj.rows 38 1 (LN i) (recF (LM (Int.toNat (ofNat i))) (LB (Int.toNat (ofNat i)))))] (.i .i64 E) [.keep,.set (JS.o J),.gone]∧True∧Con PG 16 [.p 2 0,.sv 1 (LN i) (recF (LM (Int.toNat (ofNat i))) (LB (Int.toNat (ofNat i))))] (wJu s j u) (.i .i64 E) [.keep,.keep,.set (rjJ J U),.keep]∧True∧tt1 (E)∧tt1 (E)∧Con PG 27 [.p 1 0] [some (SS.o s),some (JS.o J)] (.i .i64 (ofNat (JS.recs J))) [.keep,.keep]∧tt1 (E)∧tt1 (E)∧tt1 (E)∧True∧tt1 (E)∧tt1 (E)∧tt0 (E)∧tt1 (ofNat (JS.recs J))∧tt1 (ofNat (JS.recs J))∧Con PG 28 [.p 1 0] [some (SS.o s),some (JS.o J)] (.i .i64 (JS.room J)) [.keep,.keep]∧tt1 (ofNat (JS.recs J))∧tt1 (ofNat (JS.recs J))∧Con PG 29 [.p 2 0] (wJu s J U) (.i .i64 (JS.room J)) [.keep,.keep,.keep,.keep]∧tt1 (ofNat (JS.recs J))∧tt0 (ofNat (JS.recs J))∧tt1 (JS.room J)∧tt1 (JS.room J)∧Con PG 30 [.p 1 0] [some (SS.o s),some (JS.o J)] (.i .i64 (ofNat (JS.gen J))) [.keep,.keep]∧tt1 (JS.room J)∧tt1 (JS.room J)∧tt1 (JS.room J)∧True∧tt1 (JS.room J)∧tt1 (JS.room J)∧tt0 (JS.room J)∧tt1 (ofNat (JS.gen J))∧tt1 (ofNat (JS.gen J))∧Con PG 31 [.p 0 0] [some (SS.o s)] (.i .i64 (ofNat (SS.wr s))) [.keep]∧tt1 (ofNat (JS.gen J))∧tt1 (ofNat (JS.gen J))∧tt1 (ofNat (JS.gen J))∧True∧tt1 (ofNat (JS.gen J))∧tt1 (ofNat (JS.gen J))∧tt0 (ofNat (JS.gen J))∧tt1 (ofNat (SS.wr s))∧tt1 (ofNat (SS.wr s))∧Con PG 32 [.p 0 0] [some (SS.o s)] (.b (SS.off s)) [.keep]∧tt1 (ofNat (SS.wr s))∧tt1 (ofNat (SS.wr s))∧tt1 (ofNat (SS.wr s))∧True∧tt1 (ofNat (SS.wr s))∧tt1 (ofNat (SS.wr s))∧True∧tt0 (ofNat (SS.wr s))∧(!SS.off s == SS.off s)=false∧rg (ofNat i+1)∧Lf):=by unfold LD LQ;kernel_rfl
theorem pjM_lq (s:SS) (j:JS) (u:Nat) (S:SS) (N i:Nat) (KK KZ:Nat→Int) (TT:Nat→Bool) (BL:Nat→Nat) (BB:Nat→Nat→Nat) (LN:Nat→Nat) (LM:Nat→Nat→Nat) (LB:Nat→Nat→Nat→Nat) (h1:decide (ofNat i<ofNat N)=true) (h2:decide (200<ofNat i)=false) (q1:decide (KK i=1)=false) (q2:decide (KK i=2)=true):LD PG (loopAt PG 4 0) 202 0 (pjL N KK KZ TT BL BB LN LM LB (ofNat i)) (pjR s j u) (.t (.f (.f (.t (.cal [0] (.tup []) [.set (SS.o S)] (.cal [1,2,5] (.tup []) [.set (rsA 2 S),.set (rsR S),.set (rsP S)] (oc 2 (.cal [0,3] (.i .i64 (ofNat (JS.recs j))) [.keep,.keep] (oc 6 (.t (.t (.cal [0,3] (.i .i64 (JS.room j)) [.keep,.keep] (.t (.t (.cal [1,2,4,5] (.i .i64 (JS.room j)) [.keep,.keep,.keep,.keep] (.t (.f (.t (.t (.cal [0,3] (.i .i64 (ofNat (JS.gen j))) [.keep,.keep] (.t (.t (.t (.t (.t (.f (.t (.t (.cal [0] (.i .i64 (ofNat (SS.wr S))) [.keep] (.t (.t (.t (.t (.t (.f (.t (.t (.cal [0] (.b (SS.off S)) [.keep] (.t (.t (.t (.t (.t (.f (.f .z))))))))))))))))))))))))))))))))))))))))))))) .nrm [0,1,2,3,4,5] (pjL N KK KZ TT BL BB LN LM LB (ofNat i+1)) (pjR S j u) 7 (fun Lf=>decide (ofNat i<ofNat N)=true∧(0≤ofNat i∧ofNat i<↑N)∧True∧decide (200<ofNat i)=false∧True∧decide (KK i=1)=false∧decide (KK i=2)=true∧True∧Con PG 17 [.p 0 0,.i .i64 (KZ i)] [some (SS.o s)] (.tup []) [.set (SS.o S)]∧True∧Con PG 18 [.p 0 0,.i .i64 (KZ i)] [some (rsA 2 s),some (rsR s),some (rsP s)] (.tup []) [.set (rsA 2 S),.set (rsR S),.set (rsP S)]∧True∧Con PG 27 [.p 1 0] [some (SS.o S),some (JS.o j)] (.i .i64 (ofNat (JS.recs j))) [.keep,.keep]∧True∧tt1 (ofNat (JS.recs j))∧tt1 (ofNat (JS.recs j))∧Con PG 28 [.p 1 0] [some (SS.o S),some (JS.o j)] (.i .i64 (JS.room j)) [.keep,.keep]∧tt1 (ofNat (JS.recs j))∧tt1 (ofNat (JS.recs j))∧Con PG 29 [.p 2 0] (wJu S j u) (.i .i64 (JS.room j)) [.keep,.keep,.keep,.keep]∧tt1 (ofNat (JS.recs j))∧tt0 (ofNat (JS.recs j))∧tt1 (JS.room j)∧tt1 (JS.room j)∧Con PG 30 [.p 1 0] [some (SS.o S),some (JS.o j)] (.i .i64 (ofNat (JS.gen j))) [.keep,.keep]∧tt1 (JS.room j)∧tt1 (JS.room j)∧tt1 (JS.room j)∧True∧tt1 (JS.room j)∧tt1 (JS.room j)∧tt0 (JS.room j)∧tt1 (ofNat (JS.gen j))∧tt1 (ofNat (JS.gen j))∧Con PG 31 [.p 0 0] [some (SS.o S)] (.i .i64 (ofNat (SS.wr S))) [.keep]∧tt1 (ofNat (JS.gen j))∧tt1 (ofNat (JS.gen j))∧tt1 (ofNat (JS.gen j))∧True∧tt1 (ofNat (JS.gen j))∧tt1 (ofNat (JS.gen j))∧tt0 (ofNat (JS.gen j))∧tt1 (ofNat (SS.wr S))∧tt1 (ofNat (SS.wr S))∧Con PG 32 [.p 0 0] [some (SS.o S)] (.b (SS.off S)) [.keep]∧tt1 (ofNat (SS.wr S))∧tt1 (ofNat (SS.wr S))∧tt1 (ofNat (SS.wr S))∧True∧tt1 (ofNat (SS.wr S))∧tt1 (ofNat (SS.wr S))∧True∧tt0 (ofNat (SS.wr S))∧(!SS.off S == SS.off S)=false∧rg (ofNat i+1)∧Lf):=by unfold LD LQ;kernel_rfl
theorem pjF_lq (s:SS) (j:JS) (u:Nat) (S:SS) (N i:Nat) (KK KZ:Nat→Int) (TT:Nat→Bool) (BL:Nat→Nat) (BB:Nat→Nat→Nat) (LN:Nat→Nat) (LM:Nat→Nat→Nat) (LB:Nat→Nat→Nat→Nat) (h1:decide (ofNat i<ofNat N)=true) (h2:decide (200<ofNat i)=false) (q1:decide (KK i=1)=false) (q2:decide (KK i=2)=false) (q3:decide (KK i=3)=true):LD PG (loopAt PG 4 0) 202 0 (pjL N KK KZ TT BL BB LN LM LB (ofNat i)) (pjR s j u) (.t (.f (.f (.f (.t (.cal [0] (.tup []) [.set (SS.o S)] (.cal [1,2,5] (.tup []) [.set (rsA 2 S),.set (rsR S),.set (rsP S)] (oc 2 (.cal [0,3] (.i .i64 (ofNat (JS.recs j))) [.keep,.keep] (oc 6 (.t (.t (.cal [0,3] (.i .i64 (JS.room j)) [.keep,.keep] (.t (.t (.cal [1,2,4,5] (.i .i64 (JS.room j)) [.keep,.keep,.keep,.keep] (.t (.f (.t (.t (.cal [0,3] (.i .i64 (ofNat (JS.gen j))) [.keep,.keep] (.t (.t (.t (.t (.t (.f (.t (.t (.cal [0] (.i .i64 (ofNat (SS.wr S))) [.keep] (.t (.t (.t (.t (.t (.f (.t (.t (.cal [0] (.b (SS.off S)) [.keep] (.t (.t (.t (.t (.t (.f (.f .z)))))))))))))))))))))))))))))))))))))))))))))) .nrm [0,1,2,3,4,5] (pjL N KK KZ TT BL BB LN LM LB (ofNat i+1)) (pjR S j u) 7 (fun Lf=>decide (ofNat i<ofNat N)=true∧(0≤ofNat i∧ofNat i<↑N)∧True∧decide (200<ofNat i)=false∧True∧decide (KK i=1)=false∧decide (KK i=2)=false∧decide (KK i=3)=true∧Con PG 19 [.p 0 0] [some (SS.o s)] (.tup []) [.set (SS.o S)]∧Con PG 20 [.p 0 0] [some (rsA 2 s),some (rsR s),some (rsP s)] (.tup []) [.set (rsA 2 S),.set (rsR S),.set (rsP S)]∧True∧Con PG 27 [.p 1 0] [some (SS.o S),some (JS.o j)] (.i .i64 (ofNat (JS.recs j))) [.keep,.keep]∧True∧tt1 (ofNat (JS.recs j))∧tt1 (ofNat (JS.recs j))∧Con PG 28 [.p 1 0] [some (SS.o S),some (JS.o j)] (.i .i64 (JS.room j)) [.keep,.keep]∧tt1 (ofNat (JS.recs j))∧tt1 (ofNat (JS.recs j))∧Con PG 29 [.p 2 0] (wJu S j u) (.i .i64 (JS.room j)) [.keep,.keep,.keep,.keep]∧tt1 (ofNat (JS.recs j))∧tt0 (ofNat (JS.recs j))∧tt1 (JS.room j)∧tt1 (JS.room j)∧Con PG 30 [.p 1 0] [some (SS.o S),some (JS.o j)] (.i .i64 (ofNat (JS.gen j))) [.keep,.keep]∧tt1 (JS.room j)∧tt1 (JS.room j)∧tt1 (JS.room j)∧True∧tt1 (JS.room j)∧tt1 (JS.room j)∧tt0 (JS.room j)∧tt1 (ofNat (JS.gen j))∧tt1 (ofNat (JS.gen j))∧Con PG 31 [.p 0 0] [some (SS.o S)] (.i .i64 (ofNat (SS.wr S))) [.keep]∧tt1 (ofNat (JS.gen j))∧tt1 (ofNat (JS.gen j))∧tt1 (ofNat (JS.gen j))∧True∧tt1 (ofNat (JS.gen j))∧tt1 (ofNat (JS.gen j))∧tt0 (ofNat (JS.gen j))∧tt1 (ofNat (SS.wr S))∧tt1 (ofNat (SS.wr S))∧Con PG 32 [.p 0 0] [some (SS.o S)] (.b (SS.off S)) [.keep]∧tt1 (ofNat (SS.wr S))∧tt1 (ofNat (SS.wr S))∧tt1 (ofNat (SS.wr S))∧True∧tt1 (ofNat (SS.wr S))∧tt1 (ofNat (SS.wr S))∧True∧tt0 (ofNat (SS.wr S))∧(!SS.off S == SS.off S)=false∧rg (ofNat i+1)∧Lf):=by unfold LD LQ;kernel_rfl
theorem pjO_lq (s:SS) (j:JS) (u:Nat) (S V:SS) (J:JS) (U:Nat) (R:Int) (c:Nat) (F:Nat→Nat→CV) (N i:Nat) (KK KZ:Nat→Int) (TT:Nat→Bool) (BL:Nat→Nat) (BB:Nat→Nat→Nat) (LN:Nat→Nat) (LM:Nat→Nat→Nat) (LB:Nat→Nat→Nat→Nat) (X:SS) (h1:decide (ofNat i<ofNat N)=true) (h2:decide (200<ofNat i)=false) (q1:decide (KK i=1)=false) (q2:decide (KK i=2)=false) (q3:decide (KK i=3)=false) (q4:decide (KK i=4)=true):LD PG (loopAt PG 4 0) 202 0 (pjL N KK KZ TT BL BB LN LM LB (ofNat i)) (pjR s j u) (.t (.f (.f (.f (.f (.t (.cal [0] (.tup []) [.set (SS.o S)] (.cal [1,2,5] (.tup []) [.set (rsA 2 S),.set (rsR S),.set (rsP S)] (.cal [0] (.i .i64 R) [.set (SS.o X)] (.cal [1,2,5] (.i .i64 R) [.set (rsA 2 X),.set (rsR X),.set (rsP X)] (.cal [0] (.tup [.p 1 0,.sv 1 c F,.i .i64 0]) [.set (SS.o V),.set (JS.o J)] (.cal [1,2,5] (.tup [.p 3 0,.sv 1 c F,.i .i64 0]) [.set (rsA 2 V),.set (rsR V),.set (rsP V),.set (rjJ J U)] (oc 9 (.cal [] (.b true) [] (oc 5 (.cal [0,7] (.i .i64 (ofNat (JS.recs J))) [.keep,.keep] (oc 6 (.t (.t (.cal [0,7] (.i .i64 (JS.room J)) [.keep,.keep] (.t (.t (.cal [1,2,8,5] (.i .i64 (JS.room J)) [.keep,.keep,.keep,.keep] (.t (.f (.t (.t (.cal [0,7] (.i .i64 (ofNat (JS.gen J))) [.keep,.keep] (.t (.t (.t (.t (.t (.f (.t (.t (.cal [0] (.i .i64 (ofNat (SS.wr V))) [.keep] (.t (.t (.t (.t (.t (.f (.t (.t (.cal [0] (.b (SS.off V)) [.keep] (.t (.t (.t (.t (.t (.f (.f .z))))))))))))))))))))))))))))))))))))))))))))))))))))) .nrm [0,1,2,7,8,5] (pjL N KK KZ TT BL BB LN LM LB (ofNat i+1)) (pjR V J U) 9 (fun Lf=>decide (ofNat i<ofNat N)=true∧(0≤ofNat i∧ofNat i<↑N)∧True∧decide (200<ofNat i)=false∧True∧decide (KK i=1)=false∧decide (KK i=2)=false∧decide (KK i=3)=false∧decide (KK i=4)=true∧Con PG 19 [.p 0 0] [some (SS.o s)] (.tup []) [.set (SS.o S)]∧Con PG 20 [.p 0 0] [some (rsA 2 s),some (rsR s),some (rsP s)] (.tup []) [.set (rsA 2 S),.set (rsR S),.set (rsP S)]∧True∧True∧Con PG 21 [.p 0 0,.i .i64 (KZ i),.b (TT i)] [some (SS.o S)] (.i .i64 R) [.set (SS.o X)]∧True∧True∧Con PG 22 [.p 0 0,.i .i64 (KZ i),.b (TT i)] [some (rsA 2 S),some (rsR S),some (rsP S)] (.i .i64 R) [.set (rsA 2 X),.set (rsR X),.set (rsP X)]∧Con PG 10 [.p 0 0] [some (SS.o X)] (.tup [.p 1 0,.sv 1 c F,.i .i64 0]) [.set (SS.o V),.set (JS.o J)]∧Con PG 13 [.p 0 0] [some (rsA 2 X),some (rsR X),some (rsP X)] (.tup [.p 3 0,.sv 1 c F,.i .i64 0]) [.set (rsA 2 V),.set (rsR V),.set (rsP V),.set (rjJ J U)]∧True∧True∧Con PG 23 [.sv 1 c F,.sv 1 c F] [] (.b true) []∧True∧True∧Con PG 27 [.p 1 0] [some (SS.o V),some (JS.o J)] (.i .i64 (ofNat (JS.recs J))) [.keep,.keep]∧True∧tt1 (ofNat (JS.recs J))∧tt1 (ofNat (JS.recs J))∧Con PG 28 [.p 1 0] [some (SS.o V),some (JS.o J)] (.i .i64 (JS.room J)) [.keep,.keep]∧tt1 (ofNat (JS.recs J))∧tt1 (ofNat (JS.recs J))∧Con PG 29 [.p 2 0] (wJu V J U) (.i .i64 (JS.room J)) [.keep,.keep,.keep,.keep]∧tt1 (ofNat (JS.recs J))∧tt0 (ofNat (JS.recs J))∧tt1 (JS.room J)∧tt1 (JS.room J)∧Con PG 30 [.p 1 0] [some (SS.o V),some (JS.o J)] (.i .i64 (ofNat (JS.gen J))) [.keep,.keep]∧tt1 (JS.room J)∧tt1 (JS.room J)∧tt1 (JS.room J)∧True∧tt1 (JS.room J)∧tt1 (JS.room J)∧tt0 (JS.room J)∧tt1 (ofNat (JS.gen J))∧tt1 (ofNat (JS.gen J))∧Con PG 31 [.p 0 0] [some (SS.o V)] (.i .i64 (ofNat (SS.wr V))) [.keep]∧tt1 (ofNat (JS.gen J))∧tt1 (ofNat (JS.gen J))∧tt1 (ofNat (JS.gen J))∧True∧tt1 (ofNat (JS.gen J))∧tt1 (ofNat (JS.gen J))∧tt0 (ofNat (JS.gen J))∧tt1 (ofNat (SS.wr V))∧tt1 (ofNat (SS.wr V))∧Con PG 32 [.p 0 0] [some (SS.o V)] (.b (SS.off V)) [.keep]∧tt1 (ofNat (SS.wr V))∧tt1 (ofNat (SS.wr V))∧tt1 (ofNat (SS.wr V))∧True∧tt1 (ofNat (SS.wr V))∧tt1 (ofNat (SS.wr V))∧True∧tt0 (ofNat (SS.wr V))∧(!SS.off V == SS.off V)=false∧rg (ofNat i+1)∧Lf):=by unfold LD LQ;kernel_rfl
theorem pjP_lq (s:SS) (j:JS) (u:Nat) (S V:SS) (J:JS) (U:Nat) (R:Int) (c:Nat) (F:Nat→Nat→CV) (N i:Nat) (KK KZ:Nat→Int) (TT:Nat→Bool) (BL:Nat→Nat) (BB:Nat→Nat→Nat) (LN:Nat→Nat) (LM:Nat→Nat→Nat) (LB:Nat→Nat→Nat→Nat) (X:SS) (h1:decide (ofNat i<ofNat N)=true) (h2:decide (200<ofNat i)=false) (q1:decide (KK i=1)=false) (q2:decide (KK i=2)=false) (q3:decide (KK i=3)=false) (q4:decide (KK i=4)=true):LD PG (loopAt PG 4 0) 202 0 (pjL N KK KZ TT BL BB LN LM LB (ofNat i)) (pjR s j u) (.t (.f (.f (.f (.f (.t (.cal [0] (.tup []) [.set (SS.o S)] (.cal [1,2,5] (.tup []) [.set (rsA 2 S),.set (rsR S),.set (rsP S)] (.cal [0] (.i .i64 R) [.set (SS.o X)] (.cal [1,2,5] (.i .i64 R) [.set (rsA 2 X),.set (rsR X),.set (rsP X)] (.cal [0] (.tup [.p 1 0,.sv 1 c F,.i .i64 0]) [.set (SS.o V),.set (JS.o J)] (.cal [1,2,5] (.tup [.p 3 0,.sv 1 c F,.i .i64 0]) [.set (rsA 4 V),.set (rsR V),.gone,.set (rjJ J U),.set (rsP V)] (oc 9 (.cal [] (.b true) [] (oc 5 (.cal [0,7] (.i .i64 (ofNat (JS.recs J))) [.keep,.keep] (oc 6 (.t (.t (.cal [0,7] (.i .i64 (JS.room J)) [.keep,.keep] (.t (.t (.cal [1,2,8,9] (.i .i64 (JS.room J)) [.keep,.keep,.keep,.keep] (.t (.f (.t (.t (.cal [0,7] (.i .i64 (ofNat (JS.gen J))) [.keep,.keep] (.t (.t (.t (.t (.t (.f (.t (.t (.cal [0] (.i .i64 (ofNat (SS.wr V))) [.keep] (.t (.t (.t (.t (.t (.f (.t (.t (.cal [0] (.b (SS.off V)) [.keep] (.t (.t (.t (.t (.t (.f (.f .z))))))))))))))))))))))))))))))))))))))))))))))))))))) .nrm [0,1,2,7,8,9] (pjL N KK KZ TT BL BB LN LM LB (ofNat i+1)) (pjR V J U) 10 (fun Lf=>decide (ofNat i<ofNat N)=true∧(0≤ofNat i∧ofNat i<↑N)∧True∧decide (200<ofNat i)=false∧True∧decide (KK i=1)=false∧decide (KK i=2)=false∧decide (KK i=3)=false∧decide (KK i=4)=true∧Con PG 19 [.p 0 0] [some (SS.o s)] (.tup []) [.set (SS.o S)]∧Con PG 20 [.p 0 0] [some (rsA 2 s),some (rsR s),some (rsP s)] (.tup []) [.set (rsA 2 S),.set (rsR S),.set (rsP S)]∧True∧True∧Con PG 21 [.p 0 0,.i .i64 (KZ i),.b (TT i)] [some (SS.o S)] (.i .i64 R) [.set (SS.o X)]∧True∧True∧Con PG 22 [.p 0 0,.i .i64 (KZ i),.b (TT i)] [some (rsA 2 S),some (rsR S),some (rsP S)] (.i .i64 R) [.set (rsA 2 X),.set (rsR X),.set (rsP X)]∧Con PG 10 [.p 0 0] [some (SS.o X)] (.tup [.p 1 0,.sv 1 c F,.i .i64 0]) [.set (SS.o V),.set (JS.o J)]∧Con PG 13 [.p 0 0] [some (rsA 2 X),some (rsR X),some (rsP X)] (.tup [.p 3 0,.sv 1 c F,.i .i64 0]) [.set (rsA 4 V),.set (rsR V),.gone,.set (rjJ J U),.set (rsP V)]∧True∧True∧Con PG 23 [.sv 1 c F,.sv 1 c F] [] (.b true) []∧True∧True∧Con PG 27 [.p 1 0] [some (SS.o V),some (JS.o J)] (.i .i64 (ofNat (JS.recs J))) [.keep,.keep]∧True∧tt1 (ofNat (JS.recs J))∧tt1 (ofNat (JS.recs J))∧Con PG 28 [.p 1 0] [some (SS.o V),some (JS.o J)] (.i .i64 (JS.room J)) [.keep,.keep]∧tt1 (ofNat (JS.recs J))∧tt1 (ofNat (JS.recs J))∧Con PG 29 [.p 2 0] (wJu V J U) (.i .i64 (JS.room J)) [.keep,.keep,.keep,.keep]∧tt1 (ofNat (JS.recs J))∧tt0 (ofNat (JS.recs J))∧tt1 (JS.room J)∧tt1 (JS.room J)∧Con PG 30 [.p 1 0] [some (SS.o V),some (JS.o J)] (.i .i64 (ofNat (JS.gen J))) [.keep,.keep]∧tt1 (JS.room J)∧tt1 (JS.room J)∧tt1 (JS.room J)∧True∧tt1 (JS.room J)∧tt1 (JS.room J)∧tt0 (JS.room J)∧tt1 (ofNat (JS.gen J))∧tt1 (ofNat (JS.gen J))∧Con PG 31 [.p 0 0] [some (SS.o V)] (.i .i64 (ofNat (SS.wr V))) [.keep]∧tt1 (ofNat (JS.gen J))∧tt1 (ofNat (JS.gen J))∧tt1 (ofNat (JS.gen J))∧True∧tt1 (ofNat (JS.gen J))∧tt1 (ofNat (JS.gen J))∧tt0 (ofNat (JS.gen J))∧tt1 (ofNat (SS.wr V))∧tt1 (ofNat (SS.wr V))∧Con PG 32 [.p 0 0] [some (SS.o V)] (.b (SS.off V)) [.keep]∧tt1 (ofNat (SS.wr V))∧tt1 (ofNat (SS.wr V))∧tt1 (ofNat (SS.wr V))∧True∧tt1 (ofNat (SS.wr V))∧tt1 (ofNat (SS.wr V))∧True∧tt0 (ofNat (SS.wr V))∧(!SS.off V == SS.off V)=false∧rg (ofNat i+1)∧Lf):=by unfold LD LQ;kernel_rfl
theorem pjE_lq (s:SS) (j:JS) (u N i:Nat) (KK KZ:Nat→Int) (TT:Nat→Bool) (BL:Nat→Nat) (BB:Nat→Nat→Nat) (LN:Nat→Nat) (LM:Nat→Nat→Nat) (LB:Nat→Nat→Nat→Nat) (h1:decide (ofNat i<ofNat N)=false):LD PG (loopAt PG 4 0) 202 0 (pjL N KK KZ TT BL BB LN LM LB (ofNat i)) (pjR s j u) (.f .z) (.exit 0) [0,1,2,5] [(3,.p 0 0),(5,.p 1 0)] [some s.o,some (rsL3 s),some (rsR s),some (rsP s)] 6 (fun Lf=>decide (ofNat i<ofNat N)=false∧Lf):=by unfold LD LQ;kernel_rfl
theorem pjB_lq (s:SS) (j:JS) (u N i:Nat) (KK KZ:Nat→Int) (TT:Nat→Bool) (BL:Nat→Nat) (BB:Nat→Nat→Nat) (LN:Nat→Nat) (LM:Nat→Nat→Nat) (LB:Nat→Nat→Nat→Nat) (h1:decide (ofNat i<ofNat N)=true) (h2:decide (200<ofNat i)=true):LD PG (loopAt PG 4 0) 202 0 (pjL N KK KZ TT BL BB LN LM LB (ofNat i)) (pjR s j u) (.t (.t .z)) (.exit 0) [0,1,2,5] [(3,.p 0 0),(5,.p 1 0)] [some s.o,some (rsL3 s),some (rsR s),some (rsP s)] 7 (fun Lf=>decide (ofNat i<ofNat N)=true∧(0≤ofNat i∧ofNat i<↑N)∧True∧decide (200<ofNat i)=true∧Lf):=by unfold LD LQ;kernel_rfl
theorem jpl_vq (s0 s:SS) (j:JS) (u:Nat) (S:SS) (c:Nat) (F:Nat→Nat→CV) (N:Nat) (KK KZ:Nat→Int) (TT:Nat→Bool) (BL:Nat→Nat) (BB:Nat→Nat→Nat) (LN:Nat→Nat) (LM:Nat→Nat→Nat) (LB:Nat→Nat→Nat→Nat):VD PG 4 [.sv 5 N (nvF KK KZ TT BL BB LN LM LB)] [] (.cal [] (.b true) [] (.c (.cal [] (.tup [.p 0 0,.i .i64 0]) [.set (SS.o s0)] (.cal [] (.tup [.p 0 0,.i .i64 0]) [.set (rsA 2 s0),.set (rsR s0),.set (rsP s0)] (.cal [0] (.tup [.p 1 0,.sv 1 c F,.i .i64 0]) [.set (SS.o s),.set (JS.o j)] (.cal [1,2,3] (.tup [.p 3 0,.sv 1 c F,.i .i64 0]) [.set (rsA 4 s),.set (rsR s),.gone,.set (rjJ j u),.set (rsP s)] (oc 4 (.lop [0,1,2,4,5,6] [3,5,7,10,51,52,53] 0 (.exit 0) [(3,.p 0 0),(5,.p 1 0)] [some (SS.o S),some (rsL3 S),some (rsR S),some (rsP S)] (.cal [7] (.sv 1 (SS.n S) (imgF S)) [.keep] (.cal [9] (.b true) [.gone] .z)))))))))) (.b true) [] [] 11 (fun Lf=>Con PG 11 [] [] (.b true) []∧True∧Con PG 9 [.i .i64 122] [] (.tup [.p 0 0,.i .i64 0]) [.set (SS.o s0)]∧Con PG 12 [.i .i64 122] [] (.tup [.p 0 0,.i .i64 0]) [.set (rsA 2 s0),.set (rsR s0),.set (rsP s0)]∧Con PG 10 [.p 0 0] [some (SS.o s0)] (.tup [.p 1 0,.sv 1 c F,.i .i64 0]) [.set (SS.o s),.set (JS.o j)]∧Con PG 13 [.p 0 0] [some (rsA 2 s0),some (rsR s0),some (rsP s0)] (.tup [.p 3 0,.sv 1 c F,.i .i64 0]) [.set (rsA 4 s),.set (rsR s),.gone,.set (rjJ j u),.set (rsP s)]∧True∧LDoes PG (loopAt PG 4 0) 202 0 (mkT [(3,.p 0 0),(5,.p 1 0),(7,.p 3 0),(10,.p 4 0),(51,.sv 5 N (nvF KK KZ TT BL BB LN LM LB)),(52,.i .i64 (ofNat N)),(53,.i .i64 0)]) [some (SS.o s),some (rsL2 s),some (rsR s),some (JS.o j),some (rjL j u),some (rsP s)] (.exit 0) (mkT [(3,.p 0 0),(5,.p 1 0)]) [some (SS.o S),some (rsL3 S),some (rsR S),some (rsP S)]∧Con PG 34 [.p 0 0] [some (SS.o S)] (.sv 1 (SS.n S) (imgF S)) [.keep]∧True∧Con PG 33 [.sv 1 (SS.n S) (imgF S),.lr 0 1 0 (SS.n S) false] [some (rsR S)] (.b true) [.gone]∧Lf):=by unfold VD VQ;kernel_rfl
def Opn (T V:SS) (J:JS):Prop:=∃(c:Nat) (F:Nat→Nat→CV),Con PG 10 [.p 0 0] [some T.o] (.tup [.p 1 0,.sv 1 c F,.i .i64 0]) [.set V.o,.set J.o]∧
 ((0<bgG T∧V=T∧Con PG 13 [.p 0 0] (wS T) (.tup [.p 3 0,.sv 1 c F,.i .i64 0]) [.set (rsA 2 V),.set (rsR V),.set (rsP V),.set (rjJ J J.u)])∨
  (bgG T=0∧Con PG 13 [.p 0 0] (wS T) (.tup [.p 3 0,.sv 1 c F,.i .i64 0]) [.set (rsA 4 V),.set (rsR V),.gone,.set (rjJ J J.u),.set (rsP V)]))∧Con PG 23 [.sv 1 c F,.sv 1 c F] [] (.b true) []
theorem sm5_con (c:Nat) (m:Nat→Nat) (b:Nat→Nat→Nat) (hc:c≤512):Con PG 23 [.sv 1 c (recF m b),.sv 1 c (recF m b)] [] (.b true) []:=by
 have k:Con PG 33 [.sv 1 c (recF m b),.sv 1 c (recF m b)] [] (.b true) []:=same_con c m m b b hc fun i _=>⟨rfl,fun _ _=>rfl⟩
 exact con_d (sm5_vq c (recF m b) (recF m b)) ⟨k,rfl⟩
theorem hdG_le {s:SS} {B:Nat} (h:GB s B) (q:Nat):hdG s q≤B:=by
 unfold hdG
 cases hdOk (bB s q) q
 · rw [cond_false];exact Nat.zero_le _
 · rw [cond_true];exact h.bB q
theorem bgG_le {s:SS} {B:Nat} (h:GB s B):bgG s≤B:=by
 unfold bgG
 cases Nat.blt (hdG s 0) (hdG s 1)
 · rw [cond_false];exact hdG_le h 0
 · rw [cond_true];exact hdG_le h 1
theorem opJ_u {s:SS} {a g c:Nat} (rc:Recs s a g c):(opJ s a g c).u=jU (aP s a) c∧∃rm,rm≤60∧(opJ s a g c).room=ofNat rm∧c≤60-rm:=by
 have hu:=jU_le c rc.st
 have e:(opJ s a g c).room=ofNat (60-jU (aP s a) c):=by show (60:Int)-ofNat _= _;simp;omega
 exact ⟨by rw [u_of e];omega,60-jU (aP s a) c,by omega,e,by omega⟩
theorem pj_open {B M:Nat} {T:SS} (hn:122≤T.n) (ok:OkM T M) (hM:M+1<1073741823) (byt:Byt T) (gb:GB T B) (h1:1≤B) (hc:Calm T):∃V J,PJ B (M+1) V J∧Opn T V J:=by
 have hn5:=ok.n
 by_cases hg:0<bgG T
 · obtain ⟨c,rc⟩:=recs_ex T (bgA T) (bgG T)
   have hu:=jU_le c rc.st
   obtain ⟨eu,er⟩:=opJ_u rc
   have w:=(begin_con T hn5 byt hg).post (us':=[.set T.o]) (.refl _) (OVL.refl _)
   have k1:=openX_con T T (bgG T) (bgA T) c hn hc.on w hn hn5 hc.on byt (bgA_le T) rc
   have k2:=ropen_con ok (by omega) byt hn hc.on hg rc
   refine ⟨T,opJ T (bgA T) (bgG T) c,⟨hn,ok.mono (by omega),byt,bgA_le T,bgG_le gb,gb,er⟩,c,_,k1,.inl ⟨hg,rfl,?_⟩,sm5_con c _ _ (by omega)⟩
   rw [eu]
   exact k2.post (.refl _) (OVL.refl _)
 · have hg:bgG T=0:=by omega
   have hin:1 % 2+sumP (fun _=>1) 1 0≤T.n:=by rw [sumP1,one_parts 0];omega
   obtain ⟨d1,d2⟩:=cmtS_ok 1 0 1 M (fun _=>1) (fun _ _=>0 % 256) T (1 % 2) ok hin
   have d3:=cmtS_byt 1 0 1 M (fun _=>1) (fun _ _=>0 % 256) (fun _ _=>by decide) T (1 % 2) ok byt hin
   have d4:=GB.cmt (B:=B) (gen:=1) (by decide) h1 0 1 (fun _=>1) (fun _ _=>0 % 256) ok gb (1 % 2) hin
   obtain ⟨_,e0,cS⟩:=nmS_calm hc (by omega)
   have d1:OkM (nmS T 1 0) (M+sumP (fun _=>1) 1 0):=d1
   rw [sumP1,one_parts 0] at d1
   have d2:(nmS T 1 0).n=T.n:=d2
   have d3:Byt (nmS T 1 0):=d3
   have d4:GB (nmS T 1 0) B:=d4
   obtain ⟨c,rc⟩:=recs_ex (nmS T 1 0) 0 1
   have hu:=jU_le c rc.st
   obtain ⟨eu,er⟩:=opJ_u rc
   have w:=begin0_con T M ok hM (by omega) byt hg
   rw [e0] at w
   have k1:=openX_con T (nmS T 1 0) 1 0 c hn hc.on w (by omega) d1.n cS.on d3 (by decide) rc
   have k2:=ropen0_con ok hM byt hn hc hg d3 rc
   refine ⟨nmS T 1 0,opJ (nmS T 1 0) 0 1 c,⟨by omega,d1,d3,by show 0≤1;decide,h1,d4,er⟩,c,_,k1,.inr ⟨hg,?_⟩,sm5_con c _ _ (by omega)⟩
   rw [eu]
   exact k2
section
variable (N:Nat) (KK KZ:Nat→Int) (TT:Nat→Bool) (BL:Nat→Nat) (BB:Nat→Nat→Nat) (LN:Nat→Nat) (LM:Nat→Nat→Nat) (LB:Nat→Nat→Nat→Nat)
def Stp (i:Nat) (p q:SS×JS):Prop:=
 if KK i=1 then Bth 14 16 [.sv 1 (LN i) (recF (LM i) (LB i))] [.sv 1 (LN i) (recF (LM i) (LB i))] p.1 p.2 q.1 q.2
 else if KK i=2 then q=(p.1.arm (KZ i),p.2)
 else if KK i=3 then q=(p.1.fail,p.2)
 else if KK i=4 then Opn (p.1.fail.revived (KZ i) (TT i)) q.1 q.2
 else Bth 24 26 [.sv 1 (BL i) (byF (BB i))] [.sv 1 (BL i) (byF (BB i))] p.1 p.2 q.1 q.2
def PI (i:Nat) (p:SS×JS):Prop:=PJ (1+2*i) (62*i+62) p.1 p.2
theorem calm_rev (s:SS) (kk:Int) (tt:Bool):Calm (s.fail.revived kk tt)∧(s.fail.revived kk tt).n=s.n:=by
 have e:s.fail.revived kk tt=match tt && Nat.blt (keepN kk s.fail.P.length) s.fail.P.length with
  | true=>((s.fail.flush (keepN kk s.fail.P.length)).lay (oA s.fail.P (keepN kk s.fail.P.length)) (fun _=>0) true).on
  | false=>(s.fail.flush (keepN kk s.fail.P.length)).on:=rfl
 rw [e]
 cases tt && Nat.blt (keepN kk s.fail.P.length) s.fail.P.length<;>exact ⟨⟨rfl,rfl⟩,rfl⟩
theorem stp_ex (hKZ:∀i,KZ i≤9223372036854775807) (hBB:∀i t,BB i t<256) (hLN:∀i,LN i≤5864062014634) (hLB:∀i r t,LB i r t<256) (i:Nat) (p:SS×JS) (hi:i≤300) (h:PI i p):∃q,PI (i+1) q∧Stp KK KZ TT BL BB LN LM LB i p q:=by
 obtain ⟨s,j⟩:=p
 have h:PJ (1+2*i) (62*i+62) s j:=h
 have up:∀{S:SS} {J:JS} {B M:Nat},PJ B M S J→B≤1+2*(i+1)→M≤62*(i+1)+62→PI (i+1) (S,J):=fun k hB hM=>⟨k.n,k.ok.mono hM,k.byt,k.area,Nat.le_trans k.g hB,k.gb.mono hB,k.r⟩
 unfold Stp
 by_cases q1:KK i=1
 · obtain ⟨S,J,k1,k2⟩:=pj_rewrite (m:=LM i) (b:=LB i) (n:=LN i) h (by omega) (by omega) (by have:=hLN i;omega) (hLB i)
   exact ⟨(S,J),up k1 (by omega) (by omega),by rw [if_pos q1];exact k2⟩
 simp only [if_neg q1]
 by_cases q2:KK i=2
 · exact ⟨(s.arm (KZ i),j),up (B:=1+2*i) (M:=62*i+62) ⟨h.n,h.ok.arm (hKZ i),h.byt.arm _,h.area,h.g,h.gb.arm _,h.r⟩ (by omega) (by omega),by rw [if_pos q2]⟩
 simp only [if_neg q2]
 by_cases q3:KK i=3
 · exact ⟨(s.fail,j),up (B:=1+2*i) (M:=62*i+62) ⟨h.n,h.ok.fail,h.byt.fail,h.area,h.g,h.gb.fail,h.r⟩ (by omega) (by omega),by rw [if_pos q3]⟩
 simp only [if_neg q3]
 by_cases q4:KK i=4
 · obtain ⟨c1,c2⟩:=calm_rev s (KZ i) (TT i)
   obtain ⟨V,J,k1,k2⟩:=pj_open (T:=s.fail.revived (KZ i) (TT i)) (B:=1+2*i) (M:=62*i+62) (by rw [c2];exact h.n) (h.ok.fail.revived _ _) (by omega) (h.byt.fail.revived _ _) (h.gb.fail.revived _ _) (by omega) c1
   exact ⟨(V,J),up k1 (by omega) (by omega),by rw [if_pos q4];exact k2⟩
 simp only [if_neg q4]
 obtain ⟨S,J,k1,k2⟩:=pj_append (L:=BL i) (bs:=BB i) h (by omega) (by omega) (hBB i)
 exact ⟨(S,J),up k1 (by omega) (by omega),k2⟩
end
theorem seq_ex {α:Type} (P:Nat→α→Prop) (Q:Nat→α→α→Prop) (a0:α) (h0:P 0 a0) (step:∀i a,i≤300→P i a→∃b,P (i+1) b∧Q i a b):∃R:Nat→α,R 0=a0∧∀i,i≤300→P i (R i)∧Q i (R i) (R (i+1)):=by
 obtain ⟨f,hf⟩:=Classical.axiomOfChoice (r:=fun (x:Nat×α) (b:α)=>x.1≤300→P x.1 x.2→P (x.1+1) b∧Q x.1 x.2 b) (fun x=>by
  by_cases c:x.1≤300∧P x.1 x.2
  · obtain ⟨b,h1,h2⟩:=step x.1 x.2 c.1 c.2
    exact ⟨b,fun _ _=>⟨h1,h2⟩⟩
  · exact ⟨x.2,fun h1 h2=>absurd ⟨h1,h2⟩ c⟩)
 let R:Nat→α:=fun n=>Nat.rec a0 (fun i a=>f (i,a)) n
 have hP:∀i,i≤301→P i (R i):=by
  intro i
  induction i with
  | zero=>exact fun _=>h0
  | succ i ih=>exact fun hi=>(hf (i,R i) (by show i≤300;omega) (ih (by omega))).1
 exact ⟨R,rfl,fun i hi=>⟨hP i (by omega),(hf (i,R i) hi (hP i (by omega))).2⟩⟩
theorem rroomJ_con {B M:Nat} {s:SS} {j:JS} (h:PJ B M s j):Con PG 29 [.p 2 0] [some (rsA 3 s),some (rsR s),some (rjJ j j.u),some (rsP s)] (.i .i64 j.room) kp4:=by
 obtain ⟨rm,h60,er,_⟩:=h.r
 have k:=rroom_con s j.gen j.area j.recs (60-rm) j.dead (by omega)
 rw [show (60:Int)-ofNat (60-rm)=j.room by rw [er];simp;omega] at k
 rw [u_of er]
 exact k
theorem beqF (b:Bool):(!b == b)=false:=by cases b<;>rfl
theorem rset3 {g:FuncId} {args:List AV} {v:AV} {s s':SS} (h:Con PG g args (wS s) v [.set (rsA 2 s'),.keep,.keep]) (e1:rsR s=rsR s') (e2:rsP s=rsP s') :
 Con PG g args (wS s) v [.set (rsA 2 s'),.set (rsR s'),.set (rsP s')]:=by
 rw [←e1,←e2]
 exact h.oeq (OEqL.refl _) (OEqL.refl _)
section
variable (N:Nat) (KK KZ:Nat→Int) (TT:Nat→Bool) (BL:Nat→Nat) (BB:Nat→Nat→Nat) (LN:Nat→Nat) (LM:Nat→Nat→Nat) (LB:Nat→Nat→Nat→Nat) (R:Nat→SS×JS)
abbrev pjT (i:Nat):List (Nat×AV):=[(3,.p 0 0),(5,.p 1 0),(7,.p 3 0),(10,.p 4 0),(51,.sv 5 N (nvF KK KZ TT BL BB LN LM LB)),(52,.i .i64 (ofNat N)),(53,.i .i64 (ofNat i))]
abbrev pjO (p:SS×JS):List (Option AObj):=[some p.1.o,some (rsL2 p.1),some (rsR p.1),some p.2.o,some (rjL p.2 p.2.u),some (rsP p.1)]
abbrev pjI (i:Nat):List (Nat×AV)×List (Option AObj):=(pjT N KK KZ TT BL BB LN LM LB i,pjO (R i))
abbrev pjG (i:Nat):Prop:=RdQ PG (loopAt PG 4 0) 202 0 (pjI N KK KZ TT BL BB LN LM LB R) (fun i=>N-i) (fun i=>i≤N∧i≤201) (.exit 0) [(3,.p 0 0),(5,.p 1 0)] [some (R (min N 201)).1.o,some (rsL3 (R (min N 201)).1),some (rsR (R (min N 201)).1),some (rsP (R (min N 201)).1)] i
theorem pj_round (i:Nat) (hi:i<N) (h200:¬200<i) (hBL:BL i≤140737488351232) (hLN:LN i≤5864062014634) (hLM:∀r,LM i r≤140737488351232) (h:PI i (R i)) (hs:Stp KK KZ TT BL BB LN LM LB i (R i) (R (i+1))) (h':PI (i+1) (R (i+1))):pjG N KK KZ TT BL BB LN LM LB R i:=by
 have h1:decide (ofNat i<ofNat N)=true:=decide_eq_true (by simp;omega)
 have h2:decide ((200:Int)<ofNat i)=false:=decide_eq_false (by simp;omega)
 have ri:(0:Int)≤ofNat i∧ofNat i<(↑N:Int):=⟨by simp,by simp;omega⟩
 have rn:rg (ofNat i+1):=⟨by simp;omega,by simp;omega⟩
 have inv:i+1≤N∧i+1≤201:=⟨by omega,by omega⟩
 have ms:N-(i+1)<N-i:=by omega
 unfold Stp at hs
 generalize hp:R i=p at *
 generalize hq:R (i+1)=q at *
 obtain ⟨s,j⟩:=p
 obtain ⟨S,J⟩:=q
 simp only at hs
 have h:PJ (1+2*i) (62*i+62) s j:=h
 have h':PJ (1+2*(i+1)) (62*(i+1)+62) S J:=h'
 have e0:pjI N KK KZ TT BL BB LN LM LB R i=(pjT N KK KZ TT BL BB LN LM LB i,pjO (s,j)):=by unfold pjI;rw [hp]
 have tv:TVL (pjT N KK KZ TT BL BB LN LM LB (i+1)) (pjI N KK KZ TT BL BB LN LM LB R (i+1)).1:=.refl _
 have ov:OVL (pjO (S,J)) (pjI N KK KZ TT BL BB LN LM LB R (i+1)).2:=by unfold pjI;rw [hq];exact .refl _
 have hok:=h.ok
 have hok5:=hok.n
 have hl:s.P.length≤1073741824:=by have:=hok.P;omega
 have g1:=recs_con J S
 have g2:=room_con J S
 have g3:=rroomJ_con h'
 have g4:=gen_con J S
 have g5:=writes2_con S
 have g6:=off2_con S
 by_cases q1:KK i=1
 · rw [if_pos q1] at hs
   have d1:decide (KK i=(1:Int))=true:=decide_eq_true q1
   have ow:=jownA_con (LN i) (LM i) (LB i) hLN fun r _=>hLM r
   rcases hs with ⟨E,k1,k2⟩ | ⟨rfl,E,k1,k2⟩
   · have k1:=rwRow (by kernel_rfl) (by kernel_rfl) k1
     refine rd_nrm (pjR1_lq s j j.u S J J.u E N i KK KZ TT BL BB LN LM LB h1 h2 d1) ?_ (i+1) inv ms e0 tv ov
     repeat' first | exact trivial | assumption | exact tt1_ _ | exact tt0_ _ | exact beqF _ | exact rfl | apply And.intro
   · have k1:Con PG 14 [.p 1 0,.sv 1 (LN i) (recF (LM i) (LB i))] [some S.o,some j.o] (.i .i64 E) [.set S.o,.set J.o]:=k1.post (.refl _) (OVL.refl _)
     have k1:=(rwRow (by kernel_rfl) (by kernel_rfl) k1).post (us':=[.keep,.set J.o,.gone]) (.refl _) (OVL.refl _)
     refine rd_nrm (pjR2_lq S j j.u J J.u E N i KK KZ TT BL BB LN LM LB h1 h2 d1) ?_ (i+1) inv ms e0 tv ov
     repeat' first | exact trivial | assumption | exact tt1_ _ | exact tt0_ _ | exact beqF _ | exact rfl | apply And.intro
 rw [if_neg q1] at hs
 have d1:decide (KK i=(1:Int))=false:=decide_eq_false q1
 by_cases q2:KK i=2
 · rw [if_pos q2] at hs
   have d2:decide (KK i=(2:Int))=true:=decide_eq_true q2
   obtain ⟨rfl,rfl⟩:=Prod.mk.inj hs
   have k1:=arm2_con s (KZ i)
   have k2:=rset3 (rarm2_con s (KZ i)) rfl rfl
   refine rd_nrm (pjM_lq s J J.u (s.arm (KZ i)) N i KK KZ TT BL BB LN LM LB h1 h2 d1 d2) ?_ (i+1) inv ms e0 tv ov
   repeat' first | exact trivial | assumption | exact tt1_ _ | exact tt0_ _ | exact beqF _ | exact rfl | apply And.intro
 rw [if_neg q2] at hs
 have d2:decide (KK i=(2:Int))=false:=decide_eq_false q2
 by_cases q3:KK i=3
 · rw [if_pos q3] at hs
   have d3:decide (KK i=(3:Int))=true:=decide_eq_true q3
   obtain ⟨rfl,rfl⟩:=Prod.mk.inj hs
   have k1:=fail2_con s
   have k2:=rset3 (rfail2_con s) rfl rfl
   refine rd_nrm (pjF_lq s J J.u s.fail N i KK KZ TT BL BB LN LM LB h1 h2 d1 d2 d3) ?_ (i+1) inv ms e0 tv ov
   repeat' first | exact trivial | assumption | exact tt1_ _ | exact tt0_ _ | exact beqF _ | exact rfl | apply And.intro
 rw [if_neg q3] at hs
 have d3:decide (KK i=(3:Int))=false:=decide_eq_false q3
 by_cases q4:KK i=4
 · rw [if_pos q4] at hs
   have d4:decide (KK i=(4:Int))=true:=decide_eq_true q4
   have okf:=hok.fail
   have k1:=fail2_con s
   have k2:=rset3 (rfail2_con s) rfl rfl
   have k3:=revive_con s.fail (KZ i) (TT i) hl (fun q hq=>by have:=okf.at_ q hq;have:=okf.n;omega)
   have k4:=rrev2_con s.fail (KZ i) (TT i) hl okf.at_
   obtain ⟨c,F,o1,o2,o3⟩:=hs
   generalize s.fail.revived (KZ i) (TT i)=T at k3 k4 o1 o2
   rcases o2 with ⟨_,rfl,o2⟩ | ⟨_,o2⟩
   · refine rd_nrm (pjO_lq s j j.u s.fail S J J.u s.fail.revE c F N i KK KZ TT BL BB LN LM LB S h1 h2 d1 d2 d3 d4) ?_ (i+1) inv ms e0 tv ov
     repeat' first | exact trivial | assumption | exact tt1_ _ | exact tt0_ _ | exact beqF _ | exact rfl | apply And.intro
   · refine rd_nrm (pjP_lq s j j.u s.fail S J J.u s.fail.revE c F N i KK KZ TT BL BB LN LM LB T h1 h2 d1 d2 d3 d4) ?_ (i+1) inv ms e0 tv ov
     repeat' first | exact trivial | assumption | exact tt1_ _ | exact tt0_ _ | exact beqF _ | exact rfl | apply And.intro
 rw [if_neg q4] at hs
 have d4:decide (KK i=(4:Int))=false:=decide_eq_false q4
 have ow:=jown_con (BL i) (byF (BB i)) hBL
 rcases hs with ⟨E,k1,k2⟩ | ⟨rfl,E,k1,k2⟩
 · refine rd_nrm (pjA1_lq s j j.u S J J.u E N i KK KZ TT BL BB LN LM LB h1 h2 d1 d2 d3 d4) ?_ (i+1) inv ms e0 tv ov
   repeat' first | exact trivial | assumption | exact tt1_ _ | exact tt0_ _ | exact beqF _ | exact rfl | apply And.intro
 · refine rd_nrm (pjA2_lq S j j.u J J.u E N i KK KZ TT BL BB LN LM LB h1 h2 d1 d2 d3 d4) ?_ (i+1) inv ms e0 tv ov
   repeat' first | exact trivial | assumption | exact tt1_ _ | exact tt0_ _ | exact beqF _ | exact rfl | apply And.intro
end
theorem plays_lp (N:Nat) (KK KZ:Nat→Int) (TT:Nat→Bool) (BL:Nat→Nat) (BB:Nat→Nat→Nat) (LN:Nat→Nat) (LM:Nat→Nat→Nat) (LB:Nat→Nat→Nat→Nat) (R:Nat→SS×JS) (hBL:∀i,BL i≤140737488351232) (hLN:∀i,LN i≤5864062014634) (hLM:∀i r,LM i r≤140737488351232)
 (hR:∀i,i≤300→PI i (R i)∧Stp KK KZ TT BL BB LN LM LB i (R i) (R (i+1))) :
 LDoes PG (loopAt PG 4 0) 202 0 (mkT (pjT N KK KZ TT BL BB LN LM LB 0)) (pjO (R 0)) (.exit 0) (mkT [(3,.p 0 0),(5,.p 1 0)]) [some (R (min N 201)).1.o,some (rsL3 (R (min N 201)).1),some (rsR (R (min N 201)).1),some (rsP (R (min N 201)).1)]:=by
 refine loop_q (pjI N KK KZ TT BL BB LN LM LB R) (fun i=>N-i) (fun i=>i≤N∧i≤201) (fun _=>Nat.zero_le _) ?_ 0 ⟨Nat.zero_le _,Nat.zero_le _⟩
 rintro i ⟨hi,h201⟩
 by_cases e1:i=N
 · have h1:decide (ofNat i<ofNat N)=false:=decide_eq_false (by simp;omega)
   rw [show min N 201=i by omega]
   exact rd_out (pjE_lq (R i).1 (R i).2 (R i).2.u N i KK KZ TT BL BB LN LM LB h1) ⟨h1,rfl⟩ rfl rfl (.refl _) (.refl _)
 have h1:decide (ofNat i<ofNat N)=true:=decide_eq_true (by simp;omega)
 by_cases e2:i=201
 · have h2:decide ((200:Int)<ofNat i)=true:=decide_eq_true (by simp;omega)
   rw [show min N 201=i by omega]
   exact rd_out (pjB_lq (R i).1 (R i).2 (R i).2.u N i KK KZ TT BL BB LN LM LB h1 h2) ⟨h1,⟨by simp,by simp;omega⟩,trivial,h2,rfl⟩ rfl rfl (.refl _) (.refl _)
 · exact pj_round N KK KZ TT BL BB LN LM LB R i (by omega) (by omega) (hBL i) (hLN i) (hLM i) (hR i (by omega)).1 (hR i (by omega)).2 (hR (i+1) (by omega)).1
theorem img_im {s:SS} (h:Byt s):imgF s=imF (fun i=>bif s.torn i then 0 else 64) fun i k=>(s.dur i k).toNat:=by
 funext i j
 unfold imgF imF
 congr 1
 funext k _
 obtain ⟨m,_,e⟩:=h.dur i k
 show CV.i .u8 (s.dur i k)=CV.i .u8 (ofNat (s.dur i k).toNat)
 rw [e];rfl
theorem same2_con (s:SS) (hn:s.n≤512) (hb:Byt s):Con PG 33 [.sv 1 s.n (imgF s),.lr 0 1 0 s.n false] [some (rsR s)] (.b true) [.gone]:=by
 have k:=same_con s.n _ _ _ _ hn fun i (_:i<s.n)=>⟨Eq.refl ((fun i=>bif s.torn i then 0 else 64) i),fun k _=>Eq.refl ((fun i k=>(s.dur i k).toNat) i k)⟩
 rw [←img_im hb] at k
 exact (k.slot rfl (by kernel_rfl) (by kernel_rfl)).thaw (us0:=[.gone]) 0 (e:=38) (sz:=1) (n:=s.n) (f:=imgF s) rfl ⟨rfl,trivial⟩ ⟨.inl rfl,.inr ⟨by kernel_rfl,⟨rfl,by omega⟩,rfl⟩,trivial⟩ rfl
theorem gb_new (n B:Nat):GB (SS.new n) B:=⟨fun _=>by show gn (fun _=>0)≤B;rw [gn0];exact Nat.zero_le _,fun w hw=>by cases hw⟩
theorem plays_law (N:Nat) (KK KZ:Nat→Int) (TT:Nat→Bool) (BL:Nat→Nat) (BB:Nat→Nat→Nat) (LN:Nat→Nat) (LM:Nat→Nat→Nat) (LB:Nat→Nat→Nat→Nat) (hKZ:∀i,KZ i≤9223372036854775807) (hBL:∀i,BL i≤140737488351232) (hBB:∀i t,BB i t<256) (hLN:∀i,LN i≤5864062014634) (hLM:∀i r,LM i r≤140737488351232) (hLB:∀i r t,LB i r t<256):Con PG 4 [.sv 5 N (nvF KK KZ TT BL BB LN LM LB)] [] (.b true) []:=by
 have c1:Con PG 9 [.i .i64 122] [] (.tup [.p 0 0,.i .i64 0]) [.set (SS.new 122).o]:=new_con 122 (by decide) (by decide)
 have c2:Con PG 12 [.i .i64 122] [] (.tup [.p 0 0,.i .i64 0]) [.set (rsA 2 (SS.new 122)),.set (rsR (SS.new 122)),.set (rsP (SS.new 122))]:=rnew2_con 122 (by decide) (by decide)
 obtain ⟨V,J,hP,c,F,o1,o2,_⟩:=pj_open (T:=SS.new 122) (B:=1) (M:=0) (by decide) new_okm (by decide) new_byt (gb_new _ _) (by decide) new_calm
 have hg:bgG (SS.new 122)=0:=by
  unfold bgG
  rw [hdG_zero (bB_new 122 0 (by decide)),hdG_zero (bB_new 122 1 (by decide))];rfl
 have o2:Con PG 13 [.p 0 0] (wS (SS.new 122)) (.tup [.p 3 0,.sv 1 c F,.i .i64 0]) [.set (rsA 4 V),.set (rsR V),.gone,.set (rjJ J J.u),.set (rsP V)]:=by
  rcases o2 with ⟨h,_⟩ | ⟨_,h⟩
  · rw [hg] at h;exact absurd h (by decide)
  · exact h
 obtain ⟨R,hR0,hR⟩:=seq_ex PI (Stp KK KZ TT BL BB LN LM LB) (V,J) ⟨hP.n,hP.ok.mono (by decide),hP.byt,hP.area,hP.g,hP.gb,hP.r⟩ (stp_ex KK KZ TT BL BB LN LM LB hKZ hBB hLN hLB)
 have lp:=plays_lp N KK KZ TT BL BB LN LM LB R hBL hLN hLM hR
 rw [hR0] at lp
 have hE:=(hR (min N 201) (by omega)).1
 generalize R (min N 201)=E at lp hE
 have im:=image_con E.1 hE.ok.n
 have sm:=same2_con E.1 hE.ok.n hE.byt
 exact con_d (jpl_vq (SS.new 122) V J J.u E.1 c F N KK KZ TT BL BB LN LM LB) ⟨awake_con,trivial,c1,c2,o1,o2,trivial,lp,im,trivial,sm,rfl⟩
end Go.Proofs.Jn
