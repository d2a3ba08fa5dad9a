/- Runs over unknown values, told by the kernel: part GB. -/
import Derived.Test.YtnnipmcdkcpndaaGreatGA
noncomputable section
open Int (ofNat)
set_option linter.unusedSimpArgs false
set_option linter.unusedVariables false
set_option maxRecDepth 20000
namespace Go.Proofs.Lk
open Go Go.Sim Go.Proofs
theorem copied_vc (t:TS) (V:AV):runK PG 1000000 (.call 190 [tsV t] (mkH [])) (.c (.cal [] (AV.agg [AV.i .i64 (Rs.x (TS.r t) 2),isv (Rs.mn (TS.r t)) (Rs.mf (TS.r t)),isv (Rs.sn (TS.r t)) (Rs.sf (TS.r t))]) [] (.inl (oc 3 (.cal [] (AV.agg [AV.i .i64 (Mb.x (Rs.s (TS.r t) 0) 8),isv (Mb.mn (Rs.s (TS.r t) 0)) (Mb.mf (Rs.s (TS.r t) 0)),isv (Mb.sn (Rs.s (TS.r t) 0)) (Mb.sf (Rs.s (TS.r t) 0))]) [] (.cal [] (svN (Mb.hn (Rs.s (TS.r t) 0)) (Mb.hA (Rs.s (TS.r t) 0)) (Mb.hM (Rs.s (TS.r t) 0)) (Mb.hW (Rs.s (TS.r t) 0))) [] (.cal [] (svN (Mb.dn (Rs.s (TS.r t) 0)) (Mb.dA (Rs.s (TS.r t) 0)) (Mb.dM (Rs.s (TS.r t) 0)) (Mb.dW (Rs.s (TS.r t) 0))) [] (.inl (oc 3 (.cal [] (AV.agg [AV.i .i64 (Mb.x (Rs.s (TS.r t) 1) 8),isv (Mb.mn (Rs.s (TS.r t) 1)) (Mb.mf (Rs.s (TS.r t) 1)),isv (Mb.sn (Rs.s (TS.r t) 1)) (Mb.sf (Rs.s (TS.r t) 1))]) [] (.cal [] (svN (Mb.hn (Rs.s (TS.r t) 1)) (Mb.hA (Rs.s (TS.r t) 1)) (Mb.hM (Rs.s (TS.r t) 1)) (Mb.hW (Rs.s (TS.r t) 1))) [] (.cal [] (svN (Mb.dn (Rs.s (TS.r t) 1)) (Mb.dA (Rs.s (TS.r t) 1)) (Mb.dM (Rs.s (TS.r t) 1)) (Mb.dW (Rs.s (TS.r t) 1))) [] (.inl (oc 3 (.cal [] (AV.agg [AV.i .i64 (Mb.x (Rs.s (TS.r t) 2) 8),isv (Mb.mn (Rs.s (TS.r t) 2)) (Mb.mf (Rs.s (TS.r t) 2)),isv (Mb.sn (Rs.s (TS.r t) 2)) (Mb.sf (Rs.s (TS.r t) 2))]) [] (.cal [] (svN (Mb.hn (Rs.s (TS.r t) 2)) (Mb.hA (Rs.s (TS.r t) 2)) (Mb.hM (Rs.s (TS.r t) 2)) (Mb.hW (Rs.s (TS.r t) 2))) [] (.cal [] (svN (Mb.dn (Rs.s (TS.r t) 2)) (Mb.dA (Rs.s (TS.r t) 2)) (Mb.dM (Rs.s (TS.r t) 2)) (Mb.dW (Rs.s (TS.r t)
 2))) [] (.inl (.c (.inl (oc 2 (.cal [] (svN (TS.n t 0) (TS.A t (nat_lit 0)) (TS.M t (nat_lit 0)) (TS.W t (nat_lit 0))) [] (.c (.inl (oc 2 (.cal [] (svN (TS.n t 1) (TS.A t (nat_lit 1)) (TS.M t (nat_lit 1)) (TS.W t (nat_lit 1))) [] (.c (.inl (oc 2 (.cal [] (svN (TS.n t 2) (TS.A t (nat_lit 2)) (TS.M t (nat_lit 2)) (TS.W t (nat_lit 2))) [] (.c (.inl (oc 2 (.cal [] (svN (TS.n t 3) (TS.A t (nat_lit 3)) (TS.M t (nat_lit 3)) (TS.W t (nat_lit 3))) [] (.c (.inl (oc 2 (.cal [] (svN (TS.n t 4) (TS.A t (nat_lit 4)) (TS.M t (nat_lit 4)) (TS.W t (nat_lit 4))) [] (.c (.inl (oc 2 (.cal [] (svN (TS.n t 5) (TS.A t (nat_lit 5)) (TS.M t (nat_lit 5)) (TS.W t (nat_lit 5))) [] (.c (.inl (oc 2 (.cal [] (svN (TS.n t 6) (TS.A t (nat_lit 6)) (TS.M t (nat_lit 6)) (TS.W t (nat_lit 6))) [] (.c (.inl (oc 2 (.cal [] (svN (TS.n t 7) (TS.A t (nat_lit 7)) (TS.M t (nat_lit 7)) (TS.W t (nat_lit 7))) [] (.c (.inl (oc 2 (.cal [] (svN (TS.n t 8) (TS.A t (nat_lit 8)) (TS.M t (nat_lit 8)) (TS.W t (nat_lit 8))) [] (.c (.inl (oc 2 (.cal [] (svN (TS.n t 9) (TS.A t (nat_lit 9)) (TS.M t (nat_lit 9)) (TS.W t (nat_lit 9))) [] (.c (.inl (oc 2 (.cal [] (svN (TS.n t 10) (TS.A t (nat_lit 10)) (TS.M t (nat_lit 10)) (TS.W t (nat_lit 10))) [] (.c (.inl (oc 2 (.cal [] (svN (TS.n t 11) (TS.A t (nat_lit 11)) (TS.M t (nat_lit 11)) (TS.W t (nat_lit 11))) [] (.c (.inl (oc 2 (.cal [] (svN (TS.n t 12) (TS.A t (nat_lit 12)) (TS.M t (nat_lit 12)) (TS.W t (nat_lit 12))) [] (.c (.inl (oc 2 (.cal [] (svN (TS.n t 13) (TS.A t (nat_lit 13)) (TS.M
 t (nat_lit 13)) (TS.W t (nat_lit 13))) [] (.c (.inl (oc 2 (.cal [] (svN (TS.n t 14) (TS.A t (nat_lit 14)) (TS.M t (nat_lit 14)) (TS.W t (nat_lit 14))) [] (.c (.inl (oc 2 (.cal [] (svN (TS.n t 15) (TS.A t (nat_lit 15)) (TS.M t (nat_lit 15)) (TS.W t (nat_lit 15))) [] (.c (.inl (oc 2 (.cal [] (svN (TS.n t 16) (TS.A t (nat_lit 16)) (TS.M t (nat_lit 16)) (TS.W t (nat_lit 16))) [] (.c (.inl (oc 2 (.cal [] (svN (TS.n t 17) (TS.A t (nat_lit 17)) (TS.M t (nat_lit 17)) (TS.W t (nat_lit 17))) [] (.c (.inl (oc 2 (.cal [] (svN (TS.n t 18) (TS.A t (nat_lit 18)) (TS.M t (nat_lit 18)) (TS.W t (nat_lit 18))) [] (.c (.inl (.c .z))))))))))))))))))))))))))))))))))))))))))))))))))))))))))))))))))))))))))))))))))))))))))))))))) (fun r _=>rvIs V r)=(True/\Con PG 197 [AV.agg [AV.i .i64 (Rs.x (TS.r t) 2),isv (Rs.mn (TS.r t)) (Rs.mf (TS.r t)),isv (Rs.sn (TS.r t)) (Rs.sf (TS.r t))]] [] (AV.agg [AV.i .i64 (Rs.x (TS.r t) 2),isv (Rs.mn (TS.r t)) (Rs.mf (TS.r t)),isv (Rs.sn (TS.r t)) (Rs.sf (TS.r t))]) []/\True/\True/\True/\True/\True/\True/\Con PG 197 [AV.agg [AV.i .i64 (Mb.x (Rs.s (TS.r t) 0) 8),isv (Mb.mn (Rs.s (TS.r t) 0)) (Mb.mf (Rs.s (TS.r t) 0)),isv (Mb.sn (Rs.s (TS.r t) 0)) (Mb.sf (Rs.s (TS.r t) 0))]] [] (AV.agg [AV.i .i64 (Mb.x (Rs.s (TS.r t) 0) 8),isv (Mb.mn (Rs.s (TS.r t) 0)) (Mb.mf (Rs.s (TS.r t) 0)),isv (Mb.sn (Rs.s (TS.r t) 0)) (Mb.sf (Rs.s (TS.r t) 0))]) []/\True/\True/\True/\Con PG 87 [svN (Mb.hn (Rs.s (TS.r t) 0)) (Mb.hA (Rs.s (TS.r t) 0)) (Mb.hM (Rs.s (TS.r t) 0))
 (Mb.hW (Rs.s (TS.r t) 0))] [] (svN (Mb.hn (Rs.s (TS.r t) 0)) (Mb.hA (Rs.s (TS.r t) 0)) (Mb.hM (Rs.s (TS.r t) 0)) (Mb.hW (Rs.s (TS.r t) 0))) []/\True/\True/\True/\Con PG 130 [svN (Mb.dn (Rs.s (TS.r t) 0)) (Mb.dA (Rs.s (TS.r t) 0)) (Mb.dM (Rs.s (TS.r t) 0)) (Mb.dW (Rs.s (TS.r t) 0))] [] (svN (Mb.dn (Rs.s (TS.r t) 0)) (Mb.dA (Rs.s (TS.r t) 0)) (Mb.dM (Rs.s (TS.r t) 0)) (Mb.dW (Rs.s (TS.r t) 0))) []/\True/\rg (1)/\True/\True/\True/\True/\Con PG 197 [AV.agg [AV.i .i64 (Mb.x (Rs.s (TS.r t) 1) 8),isv (Mb.mn (Rs.s (TS.r t) 1)) (Mb.mf (Rs.s (TS.r t) 1)),isv (Mb.sn (Rs.s (TS.r t) 1)) (Mb.sf (Rs.s (TS.r t) 1))]] [] (AV.agg [AV.i .i64 (Mb.x (Rs.s (TS.r t) 1) 8),isv (Mb.mn (Rs.s (TS.r t) 1)) (Mb.mf (Rs.s (TS.r t) 1)),isv (Mb.sn (Rs.s (TS.r t) 1)) (Mb.sf (Rs.s (TS.r t) 1))]) []/\True/\True/\True/\Con PG 87 [svN (Mb.hn (Rs.s (TS.r t) 1)) (Mb.hA (Rs.s (TS.r t) 1)) (Mb.hM (Rs.s (TS.r t) 1)) (Mb.hW (Rs.s (TS.r t) 1))] [] (svN (Mb.hn (Rs.s (TS.r t) 1)) (Mb.hA (Rs.s (TS.r t) 1)) (Mb.hM (Rs.s (TS.r t) 1)) (Mb.hW (Rs.s (TS.r t) 1))) []/\True/\True/\True/\Con PG 130 [svN (Mb.dn (Rs.s (TS.r t) 1)) (Mb.dA (Rs.s (TS.r t) 1)) (Mb.dM (Rs.s (TS.r t) 1)) (Mb.dW (Rs.s (TS.r t) 1))] [] (svN (Mb.dn (Rs.s (TS.r t) 1)) (Mb.dA (Rs.s (TS.r t) 1)) (Mb.dM (Rs.s (TS.r t) 1)) (Mb.dW (Rs.s (TS.r t) 1))) []/\True/\rg (2)/\True/\True/\True/\True/\Con PG 197 [AV.agg [AV.i .i64 (Mb.x (Rs.s (TS.r t) 2) 8),isv (Mb.mn (Rs.s (TS.r t) 2)) (Mb.mf (Rs.s (TS.r t) 2)),isv (Mb.sn (Rs.s (TS.r t) 2))
 (Mb.sf (Rs.s (TS.r t) 2))]] [] (AV.agg [AV.i .i64 (Mb.x (Rs.s (TS.r t) 2) 8),isv (Mb.mn (Rs.s (TS.r t) 2)) (Mb.mf (Rs.s (TS.r t) 2)),isv (Mb.sn (Rs.s (TS.r t) 2)) (Mb.sf (Rs.s (TS.r t) 2))]) []/\True/\True/\True/\Con PG 87 [svN (Mb.hn (Rs.s (TS.r t) 2)) (Mb.hA (Rs.s (TS.r t) 2)) (Mb.hM (Rs.s (TS.r t) 2)) (Mb.hW (Rs.s (TS.r t) 2))] [] (svN (Mb.hn (Rs.s (TS.r t) 2)) (Mb.hA (Rs.s (TS.r t) 2)) (Mb.hM (Rs.s (TS.r t) 2)) (Mb.hW (Rs.s (TS.r t) 2))) []/\True/\True/\True/\Con PG 130 [svN (Mb.dn (Rs.s (TS.r t) 2)) (Mb.dA (Rs.s (TS.r t) 2)) (Mb.dM (Rs.s (TS.r t) 2)) (Mb.dW (Rs.s (TS.r t) 2))] [] (svN (Mb.dn (Rs.s (TS.r t) 2)) (Mb.dA (Rs.s (TS.r t) 2)) (Mb.dM (Rs.s (TS.r t) 2)) (Mb.dW (Rs.s (TS.r t) 2))) []/\True/\rg (3)/\True/\Con PG 87 [svN (TS.n t 0) (TS.A t (nat_lit 0)) (TS.M t (nat_lit 0)) (TS.W t (nat_lit 0))] [] (svN (TS.n t 0) (TS.A t (nat_lit 0)) (TS.M t (nat_lit 0)) (TS.W t (nat_lit 0))) []/\True/\rg (1)/\Con PG 87 [svN (TS.n t 1) (TS.A t (nat_lit 1)) (TS.M t (nat_lit 1)) (TS.W t (nat_lit 1))] [] (svN (TS.n t 1) (TS.A t (nat_lit 1)) (TS.M t (nat_lit 1)) (TS.W t (nat_lit 1))) []/\True/\rg (2)/\Con PG 87 [svN (TS.n t 2) (TS.A t (nat_lit 2)) (TS.M t (nat_lit 2)) (TS.W t (nat_lit 2))] [] (svN (TS.n t 2) (TS.A t (nat_lit 2)) (TS.M t (nat_lit 2)) (TS.W t (nat_lit 2))) []/\True/\rg (3)/\Con PG 87 [svN (TS.n t 3) (TS.A t (nat_lit 3)) (TS.M t (nat_lit 3)) (TS.W t (nat_lit 3))] [] (svN (TS.n t 3) (TS.A t (nat_lit 3)) (TS.M t (nat_lit 3)) (TS.W t (nat_lit 3))) []/\
 True/\rg (4)/\Con PG 87 [svN (TS.n t 4) (TS.A t (nat_lit 4)) (TS.M t (nat_lit 4)) (TS.W t (nat_lit 4))] [] (svN (TS.n t 4) (TS.A t (nat_lit 4)) (TS.M t (nat_lit 4)) (TS.W t (nat_lit 4))) []/\True/\rg (5)/\Con PG 87 [svN (TS.n t 5) (TS.A t (nat_lit 5)) (TS.M t (nat_lit 5)) (TS.W t (nat_lit 5))] [] (svN (TS.n t 5) (TS.A t (nat_lit 5)) (TS.M t (nat_lit 5)) (TS.W t (nat_lit 5))) []/\True/\rg (6)/\Con PG 87 [svN (TS.n t 6) (TS.A t (nat_lit 6)) (TS.M t (nat_lit 6)) (TS.W t (nat_lit 6))] [] (svN (TS.n t 6) (TS.A t (nat_lit 6)) (TS.M t (nat_lit 6)) (TS.W t (nat_lit 6))) []/\True/\rg (7)/\Con PG 87 [svN (TS.n t 7) (TS.A t (nat_lit 7)) (TS.M t (nat_lit 7)) (TS.W t (nat_lit 7))] [] (svN (TS.n t 7) (TS.A t (nat_lit 7)) (TS.M t (nat_lit 7)) (TS.W t (nat_lit 7))) []/\True/\rg (8)/\Con PG 87 [svN (TS.n t 8) (TS.A t (nat_lit 8)) (TS.M t (nat_lit 8)) (TS.W t (nat_lit 8))] [] (svN (TS.n t 8) (TS.A t (nat_lit 8)) (TS.M t (nat_lit 8)) (TS.W t (nat_lit 8))) []/\True/\rg (9)/\Con PG 87 [svN (TS.n t 9) (TS.A t (nat_lit 9)) (TS.M t (nat_lit 9)) (TS.W t (nat_lit 9))] [] (svN (TS.n t 9) (TS.A t (nat_lit 9)) (TS.M t (nat_lit 9)) (TS.W t (nat_lit 9))) []/\True/\rg (10)/\Con PG 87 [svN (TS.n t 10) (TS.A t (nat_lit 10)) (TS.M t (nat_lit 10)) (TS.W t (nat_lit 10))] [] (svN (TS.n t 10) (TS.A t (nat_lit 10)) (TS.M t (nat_lit 10)) (TS.W t (nat_lit 10))) []/\True/\rg (11)/\Con PG 87 [svN (TS.n t 11) (TS.A t (nat_lit 11)) (TS.M t (nat_lit 11)) (TS.W t (nat_lit 11))] [] (svN (TS.n t 11)
 (TS.A t (nat_lit 11)) (TS.M t (nat_lit 11)) (TS.W t (nat_lit 11))) []/\True/\rg (12)/\Con PG 87 [svN (TS.n t 12) (TS.A t (nat_lit 12)) (TS.M t (nat_lit 12)) (TS.W t (nat_lit 12))] [] (svN (TS.n t 12) (TS.A t (nat_lit 12)) (TS.M t (nat_lit 12)) (TS.W t (nat_lit 12))) []/\True/\rg (13)/\Con PG 87 [svN (TS.n t 13) (TS.A t (nat_lit 13)) (TS.M t (nat_lit 13)) (TS.W t (nat_lit 13))] [] (svN (TS.n t 13) (TS.A t (nat_lit 13)) (TS.M t (nat_lit 13)) (TS.W t (nat_lit 13))) []/\True/\rg (14)/\Con PG 87 [svN (TS.n t 14) (TS.A t (nat_lit 14)) (TS.M t (nat_lit 14)) (TS.W t (nat_lit 14))] [] (svN (TS.n t 14) (TS.A t (nat_lit 14)) (TS.M t (nat_lit 14)) (TS.W t (nat_lit 14))) []/\True/\rg (15)/\Con PG 87 [svN (TS.n t 15) (TS.A t (nat_lit 15)) (TS.M t (nat_lit 15)) (TS.W t (nat_lit 15))] [] (svN (TS.n t 15) (TS.A t (nat_lit 15)) (TS.M t (nat_lit 15)) (TS.W t (nat_lit 15))) []/\True/\rg (16)/\Con PG 87 [svN (TS.n t 16) (TS.A t (nat_lit 16)) (TS.M t (nat_lit 16)) (TS.W t (nat_lit 16))] [] (svN (TS.n t 16) (TS.A t (nat_lit 16)) (TS.M t (nat_lit 16)) (TS.W t (nat_lit 16))) []/\True/\rg (17)/\Con PG 87 [svN (TS.n t 17) (TS.A t (nat_lit 17)) (TS.M t (nat_lit 17)) (TS.W t (nat_lit 17))] [] (svN (TS.n t 17) (TS.A t (nat_lit 17)) (TS.M t (nat_lit 17)) (TS.W t (nat_lit 17))) []/\True/\rg (18)/\Con PG 87 [svN (TS.n t 18) (TS.A t (nat_lit 18)) (TS.M t (nat_lit 18)) (TS.W t (nat_lit 18))] [] (svN (TS.n t 18) (TS.A t (nat_lit 18)) (TS.M t (nat_lit 18)) (TS.W t (nat_lit 18))) []/\True/\
 rg (19)/\(AV.agg [AV.i .i64 (Rs.x (TS.r t) 0),AV.i .i64 (Rs.x (TS.r t) 1),AV.i .i64 (Rs.x (TS.r t) 2),AV.sv 1 (Rs.mn (TS.r t)) fun i x=>CV.i .i64 (Rs.mf (TS.r t) i),AV.sv 1 (Rs.sn (TS.r t)) fun i x=>CV.i .i64 (Rs.sf (TS.r t) i),AV.i .i64 (Mb.x (Rs.s (TS.r t) 0) 0),AV.i .i64 (Mb.x (Rs.s (TS.r t) 0) 1),AV.i .i64 (Mb.x (Rs.s (TS.r t) 0) 2),AV.i .i64 (Mb.x (Rs.s (TS.r t) 0) 3),AV.i .i64 (Mb.x (Rs.s (TS.r t) 0) 4),AV.i .i64 (Mb.x (Rs.s (TS.r t) 0) 5),AV.i .i64 (Mb.x (Rs.s (TS.r t) 0) 6),AV.i .i64 (Mb.x (Rs.s (TS.r t) 0) 7),AV.i .i64 (Mb.x (Rs.s (TS.r t) 0) 8),AV.sv 1 (Mb.mn (Rs.s (TS.r t) 0)) fun i x=>CV.i .i64 (Mb.mf (Rs.s (TS.r t) 0) i),AV.sv 1 (Mb.sn (Rs.s (TS.r t) 0)) fun i x=>CV.i .i64 (Mb.sf (Rs.s (TS.r t) 0) i),AV.sv 3 (Mb.hn (Rs.s (TS.r t) 0)) (qF (Mb.hA (Rs.s (TS.r t) 0)) (Mb.hM (Rs.s (TS.r t) 0)) (Mb.hW (Rs.s (TS.r t) 0))),AV.sv 3 (Mb.dn (Rs.s (TS.r t) 0)) (qF (Mb.dA (Rs.s (TS.r t) 0)) (Mb.dM (Rs.s (TS.r t) 0)) (Mb.dW (Rs.s (TS.r t) 0))),AV.i .i64 (Mb.x (Rs.s (TS.r t) 1) 0),AV.i .i64 (Mb.x (Rs.s (TS.r t) 1) 1),AV.i .i64 (Mb.x (Rs.s (TS.r t) 1) 2),AV.i .i64 (Mb.x (Rs.s (TS.r t) 1) 3),AV.i .i64 (Mb.x (Rs.s (TS.r t) 1) 4),AV.i .i64 (Mb.x (Rs.s (TS.r t) 1) 5),AV.i .i64 (Mb.x (Rs.s (TS.r t) 1) 6),AV.i .i64 (Mb.x (Rs.s (TS.r t) 1) 7),AV.i .i64 (Mb.x (Rs.s (TS.r t) 1) 8),AV.sv 1 (Mb.mn (Rs.s (TS.r t) 1)) fun i x=>CV.i .i64 (Mb.mf (Rs.s (TS.r t) 1) i),AV.sv 1 (Mb.sn (Rs.s (TS.r t) 1)) fun i x=>CV.i .i64 (Mb.sf (Rs.s (TS.r t) 1) i),AV.sv
 3 (Mb.hn (Rs.s (TS.r t) 1)) (qF (Mb.hA (Rs.s (TS.r t) 1)) (Mb.hM (Rs.s (TS.r t) 1)) (Mb.hW (Rs.s (TS.r t) 1))),AV.sv 3 (Mb.dn (Rs.s (TS.r t) 1)) (qF (Mb.dA (Rs.s (TS.r t) 1)) (Mb.dM (Rs.s (TS.r t) 1)) (Mb.dW (Rs.s (TS.r t) 1))),AV.i .i64 (Mb.x (Rs.s (TS.r t) 2) 0),AV.i .i64 (Mb.x (Rs.s (TS.r t) 2) 1),AV.i .i64 (Mb.x (Rs.s (TS.r t) 2) 2),AV.i .i64 (Mb.x (Rs.s (TS.r t) 2) 3),AV.i .i64 (Mb.x (Rs.s (TS.r t) 2) 4),AV.i .i64 (Mb.x (Rs.s (TS.r t) 2) 5),AV.i .i64 (Mb.x (Rs.s (TS.r t) 2) 6),AV.i .i64 (Mb.x (Rs.s (TS.r t) 2) 7),AV.i .i64 (Mb.x (Rs.s (TS.r t) 2) 8),AV.sv 1 (Mb.mn (Rs.s (TS.r t) 2)) fun i x=>CV.i .i64 (Mb.mf (Rs.s (TS.r t) 2) i),AV.sv 1 (Mb.sn (Rs.s (TS.r t) 2)) fun i x=>CV.i .i64 (Mb.sf (Rs.s (TS.r t) 2) i),AV.sv 3 (Mb.hn (Rs.s (TS.r t) 2)) (qF (Mb.hA (Rs.s (TS.r t) 2)) (Mb.hM (Rs.s (TS.r t) 2)) (Mb.hW (Rs.s (TS.r t) 2))),AV.sv 3 (Mb.dn (Rs.s (TS.r t) 2)) (qF (Mb.dA (Rs.s (TS.r t) 2)) (Mb.dM (Rs.s (TS.r t) 2)) (Mb.dW (Rs.s (TS.r t) 2))),AV.i .i64 (TS.h t 0 0),AV.i .i64 (TS.h t 0 1),AV.i .i64 (TS.h t 0 2),AV.i .i64 (TS.h t 1 0),AV.i .i64 (TS.h t 1 1),AV.i .i64 (TS.h t 1 2),AV.i .i64 (TS.h t 2 0),AV.i .i64 (TS.h t 2 1),AV.i .i64 (TS.h t 2 2),AV.i .i64 (TS.h t 3 0),AV.i .i64 (TS.h t 3 1),AV.i .i64 (TS.h t 3 2),AV.i .i64 (TS.h t 4 0),AV.i .i64 (TS.h t 4 1),AV.i .i64 (TS.h t 4 2),AV.i .i64 (TS.h t 5 0),AV.i .i64 (TS.h t 5 1),AV.i .i64 (TS.h t 5 2),AV.i .i64 (TS.h t 6 0),AV.i .i64 (TS.h t 6 1),AV.i .i64 (TS.h t 6 2),AV.i .i64 (TS.h t 7
 0),AV.i .i64 (TS.h t 7 1),AV.i .i64 (TS.h t 7 2),AV.i .i64 (TS.h t 8 0),AV.i .i64 (TS.h t 8 1),AV.i .i64 (TS.h t 8 2),AV.i .i64 (TS.h t 9 0),AV.i .i64 (TS.h t 9 1),AV.i .i64 (TS.h t 9 2),AV.i .i64 (TS.h t 10 0),AV.i .i64 (TS.h t 10 1),AV.i .i64 (TS.h t 10 2),AV.i .i64 (TS.h t 11 0),AV.i .i64 (TS.h t 11 1),AV.i .i64 (TS.h t 11 2),AV.i .i64 (TS.h t 12 0),AV.i .i64 (TS.h t 12 1),AV.i .i64 (TS.h t 12 2),AV.i .i64 (TS.h t 13 0),AV.i .i64 (TS.h t 13 1),AV.i .i64 (TS.h t 13 2),AV.i .i64 (TS.h t 14 0),AV.i .i64 (TS.h t 14 1),AV.i .i64 (TS.h t 14 2),AV.i .i64 (TS.h t 15 0),AV.i .i64 (TS.h t 15 1),AV.i .i64 (TS.h t 15 2),AV.i .i64 (TS.h t 16 0),AV.i .i64 (TS.h t 16 1),AV.i .i64 (TS.h t 16 2),AV.i .i64 (TS.h t 17 0),AV.i .i64 (TS.h t 17 1),AV.i .i64 (TS.h t 17 2),AV.i .i64 (TS.h t 18 0),AV.i .i64 (TS.h t 18 1),AV.i .i64 (TS.h t 18 2),AV.sv 3 (TS.n t 0) (qF (TS.A t (nat_lit 0)) (TS.M t (nat_lit 0)) (TS.W t (nat_lit 0))),AV.sv 3 (TS.n t 1) (qF (TS.A t (nat_lit 1)) (TS.M t (nat_lit 1)) (TS.W t (nat_lit 1))),AV.sv 3 (TS.n t 2) (qF (TS.A t (nat_lit 2)) (TS.M t (nat_lit 2)) (TS.W t (nat_lit 2))),AV.sv 3 (TS.n t 3) (qF (TS.A t (nat_lit 3)) (TS.M t (nat_lit 3)) (TS.W t (nat_lit 3))),AV.sv 3 (TS.n t 4) (qF (TS.A t (nat_lit 4)) (TS.M t (nat_lit 4)) (TS.W t (nat_lit 4))),AV.sv 3 (TS.n t 5) (qF (TS.A t (nat_lit 5)) (TS.M t (nat_lit 5)) (TS.W t (nat_lit 5))),AV.sv 3 (TS.n t 6) (qF (TS.A t (nat_lit 6)) (TS.M t (nat_lit 6)) (TS.W t (nat_lit 6))),AV.sv 3 (TS.n
 t 7) (qF (TS.A t (nat_lit 7)) (TS.M t (nat_lit 7)) (TS.W t (nat_lit 7))),AV.sv 3 (TS.n t 8) (qF (TS.A t (nat_lit 8)) (TS.M t (nat_lit 8)) (TS.W t (nat_lit 8))),AV.sv 3 (TS.n t 9) (qF (TS.A t (nat_lit 9)) (TS.M t (nat_lit 9)) (TS.W t (nat_lit 9))),AV.sv 3 (TS.n t 10) (qF (TS.A t (nat_lit 10)) (TS.M t (nat_lit 10)) (TS.W t (nat_lit 10))),AV.sv 3 (TS.n t 11) (qF (TS.A t (nat_lit 11)) (TS.M t (nat_lit 11)) (TS.W t (nat_lit 11))),AV.sv 3 (TS.n t 12) (qF (TS.A t (nat_lit 12)) (TS.M t (nat_lit 12)) (TS.W t (nat_lit 12))),AV.sv 3 (TS.n t 13) (qF (TS.A t (nat_lit 13)) (TS.M t (nat_lit 13)) (TS.W t (nat_lit 13))),AV.sv 3 (TS.n t 14) (qF (TS.A t (nat_lit 14)) (TS.M t (nat_lit 14)) (TS.W t (nat_lit 14))),AV.sv 3 (TS.n t 15) (qF (TS.A t (nat_lit 15)) (TS.M t (nat_lit 15)) (TS.W t (nat_lit 15))),AV.sv 3 (TS.n t 16) (qF (TS.A t (nat_lit 16)) (TS.M t (nat_lit 16)) (TS.W t (nat_lit 16))),AV.sv 3 (TS.n t 17) (qF (TS.A t (nat_lit 17)) (TS.M t (nat_lit 17)) (TS.W t (nat_lit 17))),AV.sv 3 (TS.n t 18) (qF (TS.A t (nat_lit 18)) (TS.M t (nat_lit 18)) (TS.W t (nat_lit 18)))])=V):=by kernel_rfl
theorem tsV_below (t:TS):below 0 (tsV t)=true:=by kernel_rfl
theorem copied_con (t:TS) (ok:t.ok):Con PG 190 [tsV t] [] (tsV t) []:=by
 obtain ⟨m1,m2⟩:=ok.m
 refine con_pureX (copied_vc t (tsV t)) (tsV_below t) ?_
 exact ⟨trivial,cfg_con _ _ _ _ _ m1 m2,trivial,trivial,trivial,trivial,trivial,trivial,cfg_con _ _ _ _ _ (ok.s _).1 (ok.s _).2.1,trivial,trivial,trivial,cl42_con _ _ _ _ (ok.s _).2.2.1,trivial,trivial,trivial,cl43_con _ _ _ _ (ok.s _).2.2.2,trivial,⟨by decide,by decide⟩,trivial,trivial,trivial,trivial,cfg_con _ _ _ _ _ (ok.s _).1 (ok.s _).2.1,trivial,trivial,trivial,cl42_con _ _ _ _ (ok.s _).2.2.1,trivial,trivial,trivial,cl43_con _ _ _ _ (ok.s _).2.2.2,trivial,⟨by decide,by decide⟩,trivial,trivial,trivial,trivial,cfg_con _ _ _ _ _ (ok.s _).1 (ok.s _).2.1,trivial,trivial,trivial,cl42_con _ _ _ _ (ok.s _).2.2.1,trivial,trivial,trivial,cl43_con _ _ _ _ (ok.s _).2.2.2,trivial,⟨by decide,by decide⟩,trivial,cl42_con _ _ _ _ (ok.q _),trivial,⟨by decide,by decide⟩,cl42_con _ _ _ _ (ok.q _),trivial,⟨by decide,by decide⟩,cl42_con _ _ _ _ (ok.q _),trivial,⟨by decide,by decide⟩,cl42_con _ _ _ _ (ok.q _),trivial,⟨by decide,by decide⟩,cl42_con _ _ _ _ (ok.q _),trivial,⟨by decide,by decide⟩,cl42_con _ _ _ _ (ok.q _),trivial,⟨by decide,by decide⟩,cl42_con _ _ _ _ (ok.q _),trivial,⟨by decide,by decide⟩,cl42_con _ _ _ _ (ok.q _),trivial,⟨by decide,by decide⟩,cl42_con _ _ _ _ (ok.q _),trivial,⟨by decide,by decide⟩,cl42_con _ _ _ _ (ok.q _),trivial,⟨by decide,by decide⟩,cl42_con _ _ _ _ (ok.q _),trivial,⟨by decide,by decide⟩,cl42_con _ _ _ _ (ok.q _),trivial,⟨by decide,by decide⟩,cl42_con _ _ _ _ (ok.q _),trivial,⟨by decide,by decide⟩,cl42_con _ _ _ _ (ok.q _),trivial,⟨by decide,by decide⟩,cl42_con _ _ _ _ (ok.q _),trivial,⟨by decide,by decide⟩,cl42_con _ _ _ _ (ok.q _),trivial,⟨by decide,by decide⟩,cl42_con _ _ _ _ (ok.q _),trivial,⟨by decide,by decide⟩,cl42_con _ _ _ _ (ok.q _),trivial,⟨by decide,by decide⟩,cl42_con _ _ _ _ (ok.q _),trivial,⟨by decide,by decide⟩,by kernel_rfl⟩
theorem vaR_vc (t:TS) (mb:Nat->Bool) (l:Nat) (h1:decide (ofNat l<19)=true) (K:Res->Orc->Prop):runK PG 1000000 (.code (loopAt PG 35 0) 12 (mkT [(1,.p 0 0),(4,.i .i64 (ofNat l))]) (mkH [some (tsO t)])) (.t (.cal [0] (rwN (TS.h t l) (TS.n t l) (TS.A t l) (TS.M t l) (TS.W t l)) [.keep] (.cal [] (.b (mb l)) [] (.s .z .z)))) K=((fun (q0:AV)=>(decide (ofNat l<19)=true/\Con PG 79 [.p 0 0,inv l] [some (tsO t)] (rwN (TS.h t l) (TS.n t l) (TS.A t l) (TS.M t l) (TS.W t l)) [.keep]/\Con PG 80 [rwN (TS.h t l) (TS.n t l) (TS.A t l) (TS.M t l) (TS.W t l)] [] (.b (mb l)) []/\True/\((!mb l)=true->K (.st .ret (zz0 (zz1 (.p 0 0) (zz1 (inv l) (zzn l) .e) (zz1 (.b (decide (ofNat l<19))) (zzl (.b (mb l))) .e)) (zz1 (.b false) (zz1 (inv l) (zzl q0) .e) (zz1 (inv l) (zzl (.b !mb l)) .e))) (mkH [some (tsO t)])) .z)/\((!mb l)=false->rg (ofNat l+1)/\K (.st .nrm (zz0 (zz1 (.p 0 0) (zz1 (inv l) (zzn l) (zzl (.i .i64 (ofNat l+1)))) (zz1 (.b (decide (ofNat l<19))) (zzl (.b (mb l))) .e)) (zz0 (zz1 (.i .i64 (ofNat l+1)) (zzl q0) .e) (zz1 (inv l) (zzl (.b !mb l)) .e))) (mkH [some (tsO t)])) .z))) (.agg [.i .i64 (TS.h t l 0),.i .i64 (TS.h t l 1),.i .i64 (TS.h t l 2),.sv 3 (TS.n t l) (qF (TS.A t l) (TS.M t l) (TS.W t l))])):=by kernel_rfl
theorem vaE_vc (t:TS) (K:Res->Orc->Prop):runK PG 1000000 (.code (loopAt PG 35 0) 12 (mkT [(1,.p 0 0),(4,.i .i64 19)]) (mkH [some (tsO t)])) (.c .z) K=(K (.st (.exit 0) (zz0 (zz1 (.p 0 0) .e (zzl (.b false))) (zz0 (zzl (.i .i64 19)) .e)) (mkH [some (tsO t)])) .z):=by kernel_rfl
theorem vaF_vc (t:TS) (V:AV):runK PG 1000000 (.call 35 [tsV t] (mkH [])) (.c (.lop [0] [1,4] 1 .ret [(2,AV.b false)] [some (tsO t)] .z)) (fun r _=>rvIs V r)=(LDoes PG (loopAt PG 35 0) 12 1 (mkT [(1,AV.p 0 0),(4,AV.i .i64 0)]) [some (tsO t)] .ret (mkT [(2,AV.b false)]) [some (tsO t)]/\(AV.b false)=V):=by kernel_rfl
theorem vaT_vc (t:TS) (V:AV):runK PG 1000000 (.call 35 [tsV t] (mkH [])) (.c (.lop [0] [1,4] 1 (.exit 0) [(1,AV.p 0 0)] [some (tsO t)] .z)) (fun r _=>rvIs V r)=(LDoes PG (loopAt PG 35 0) 12 1 (mkT [(1,AV.p 0 0),(4,AV.i .i64 0)]) [some (tsO t)] (.exit 0) (mkT [(1,AV.p 0 0)]) [some (tsO t)]/\(AV.b true)=V):=by kernel_rfl
theorem askO_vc (t t1:TS) (lk sv ws:Int->Bool) (vl:Bool) (ah:Nat->Int) (an:Nat) (aA aM aW:Nat->Int) (l:Nat) (k m:Int) (h1:lk (ofNat l)=true) (h2:sv k=true) (h3:ws m=true) (h4:vl=true) (V:AV):runK PG 1000000 (.call 175 [tsV t,inv l,.i .i64 k,.i .i64 m] (mkH [])) (.c (.cal [] (AV.b (lk (ofNat l))) [] (.t (.t (.cal [] (AV.b (sv k)) [] (.t (.f (.t (.t (.cal [] (AV.b (ws m)) [] (.t (.f (.t (.t (.cal [] (AV.b vl) [] (.t (.f (.f (.cal [] (tsV t) [] (.cal [2] (rwN (TS.h t l) (TS.n t l) (TS.A t l) (TS.M t l) (TS.W t l)) [.keep] (.cal [] (rwN ah an aA aM aW) [] (.cal [2] (AV.tup []) [.set (tsZ t1)] .z)))))))))))))))))))))) (fun r _=>rvIs V r)=(Con PG 189 [AV.i .i64 (ofNat l)] [] (AV.b (lk (ofNat l))) []/\True/\r2 ((!!lk (ofNat l))=true) (Con PG 183 [AV.i .i64 k] [] (AV.b (sv k)) []/\(!!lk (ofNat l))=true/\True/\(!lk (ofNat l))=false/\r2 ((!!sv k)=true) (Con PG 188 [AV.i .i64 m] [] (AV.b (ws m)) []/\(!!sv k)=true/\True/\(!sv k)=false/\r2 ((!!ws m)=true) (Con PG 35 [tsV t] [] (AV.b vl) []/\(!!ws m)=true/\True/\(!ws m)=false/\(!vl)=false/\Con PG 190 [tsV t] [] (tsV t) []/\Con PG 79 [AV.p 0 0,AV.i .i64 (ofNat l)] [some (tsZ t)] (rwN (TS.h t l) (TS.n t l) (TS.A t l) (TS.M t l) (TS.W t l)) [.keep]/\Con PG 192 [rwN (TS.h t l) (TS.n t l) (TS.A t l) (TS.M t l) (TS.W t l),AV.i .i64 k,AV.i .i64 m] [] (rwN ah an aA aM aW) []/\Con PG 191 [AV.p 0 0,AV.i .i64 (ofNat l),rwN ah an
 aA aM aW] [some (tsZ t)] (AV.tup []) [.set (tsZ t1)]/\(AV.tup [tsV t1,AV.i .i64 0])=V)))):=by kernel_rfl
theorem askN0_vc (t:TS) (lk:Int->Bool) (l k m:Int) (h0:lk l=false) (V:AV):runK PG 1000000 (.call 175 [tsV t,.i .i64 l,.i .i64 k,.i .i64 m] (mkH [])) (.c (.cal [] (AV.b (lk l)) [] (of_ 3 (.t (oc 9 .z))))) (fun r _=>rvIs V r)=(Con PG 189 [AV.i .i64 l] [] (AV.b (lk l)) []/\True/\r3 ((!!lk l)=false) ((!lk l)=true/\(AV.tup [AV.agg zL,AV.i .i64 2])=V)):=by kernel_rfl
theorem askN1_vc (t:TS) (lk sv:Int->Bool) (l k m:Int) (h0:lk l=true) (h1:sv k=false) (V:AV):runK PG 1000000 (.call 175 [tsV t,.i .i64 l,.i .i64 k,.i .i64 m] (mkH [])) (.c (.cal [] (AV.b (lk l)) [] (.t (.t (.cal [] (AV.b (sv k)) [] (.t (of_ 4 (.t (oc 5 .z))))))))) (fun r _=>rvIs V r)=(Con PG 189 [AV.i .i64 l] [] (AV.b (lk l)) []/\True/\r2 ((!!lk l)=true) (Con PG 183 [AV.i .i64 k] [] (AV.b (sv k)) []/\(!!lk l)=true/\True/\(!lk l)=false/\r3 ((!!sv k)=false) ((!sv k)=true/\(AV.tup [AV.agg zL,AV.i .i64 2])=V))):=by kernel_rfl
theorem askN2_vc (t:TS) (lk sv ws:Int->Bool) (l k m:Int) (h0:lk l=true) (h1:sv k=true) (h2:ws m=false) (V:AV):runK PG 1000000 (.call 175 [tsV t,.i .i64 l,.i .i64 k,.i .i64 m] (mkH [])) (.c (.cal [] (AV.b (lk l)) [] (.t (.t (.cal [] (AV.b (sv k)) [] (.t (.f (.t (.t (.cal [] (AV.b (ws m)) [] (.t (of_ 4 (.t (.c .z)))))))))))))) (fun r _=>rvIs V r)=(Con PG 189 [AV.i .i64 l] [] (AV.b (lk l)) []/\True/\r2 ((!!lk l)=true) (Con PG 183 [AV.i .i64 k] [] (AV.b (sv k)) []/\(!!lk l)=true/\True/\(!lk l)=false/\r2 ((!!sv k)=true) (Con PG 188 [AV.i .i64 m] [] (AV.b (ws m)) []/\(!!sv k)=true/\True/\(!sv k)=false/\r3 ((!!ws m)=false) ((!ws m)=true/\(AV.tup [AV.agg zL,AV.i .i64 2])=V)))):=by kernel_rfl
theorem askN3_vc (t:TS) (lk sv ws:Int->Bool) (vl:Bool) (l k m:Int) (h0:lk l=true) (h1:sv k=true) (h2:ws m=true) (h3:vl=false) (V:AV):runK PG 1000000 (.call 175 [tsV t,.i .i64 l,.i .i64 k,.i .i64 m] (mkH [])) (.c (.cal [] (AV.b (lk l)) [] (.t (.t (.cal [] (AV.b (sv k)) [] (.t (.f (.t (.t (.cal [] (AV.b (ws m)) [] (.t (.f (.t (.t (.cal [] (AV.b vl) [] (.t (.f (.t .z)))))))))))))))))) (fun r _=>rvIs V r)=(Con PG 189 [AV.i .i64 l] [] (AV.b (lk l)) []/\True/\r2 ((!!lk l)=true) (Con PG 183 [AV.i .i64 k] [] (AV.b (sv k)) []/\(!!lk l)=true/\True/\(!lk l)=false/\r2 ((!!sv k)=true) (Con PG 188 [AV.i .i64 m] [] (AV.b (ws m)) []/\(!!sv k)=true/\True/\(!sv k)=false/\r2 ((!!ws m)=true) (Con PG 35 [tsV t] [] (AV.b vl) []/\(!!ws m)=true/\True/\(!ws m)=false/\(!vl)=true/\(AV.tup [AV.agg zL,AV.i .i64 2])=V)))):=by kernel_rfl
theorem freeO_vc (t t1:TS) (lk sv:Int->Bool) (vl:Bool) (ah:Nat->Int) (an:Nat) (aA aM aW:Nat->Int) (l:Nat) (k:Int) (h1:lk (ofNat l)=true) (h2:sv k=true) (h4:vl=true) (V:AV):runK PG 1000000 (.call 177 [tsV t,inv l,.i .i64 k] (mkH [])) (.c (.cal [] (AV.b (lk (ofNat l))) [] (.t (.t (.cal [] (AV.b (sv k)) [] (.t (.f (.t (.t (.cal [] (AV.b vl) [] (.t (.f (.f (.cal [] (tsV t) [] (.cal [2] (rwN (TS.h t l) (TS.n t l) (TS.A t l) (TS.M t l) (TS.W t l)) [.keep] (.cal [] (rwN ah an aA aM aW) [] (.cal [2] (AV.tup []) [.set (tsZ t1)] .z))))))))))))))))) (fun r _=>rvIs V r)=(Con PG 189 [AV.i .i64 (ofNat l)] [] (AV.b (lk (ofNat l))) []/\True/\r2 ((!!lk (ofNat l))=true) (Con PG 183 [AV.i .i64 k] [] (AV.b (sv k)) []/\(!!lk (ofNat l))=true/\True/\(!lk (ofNat l))=false/\r2 ((!!sv k)=true) (Con PG 35 [tsV t] [] (AV.b vl) []/\(!!sv k)=true/\True/\(!sv k)=false/\(!vl)=false/\Con PG 190 [tsV t] [] (tsV t) []/\Con PG 79 [AV.p 0 0,AV.i .i64 (ofNat l)] [some (tsZ t)] (rwN (TS.h t l) (TS.n t l) (TS.A t l) (TS.M t l) (TS.W t l)) [.keep]/\Con PG 193 [rwN (TS.h t l) (TS.n t l) (TS.A t l) (TS.M t l) (TS.W t l),AV.i .i64 k] [] (rwN ah an aA aM aW) []/\Con PG 191 [AV.p 0 0,AV.i .i64 (ofNat l),rwN ah an aA aM aW] [some (tsZ t)] (AV.tup []) [.set (tsZ t1)]/\(AV.tup [tsV t1,AV.i .i64 0])=V))):=by kernel_rfl
theorem freeN0_vc (t:TS) (lk:Int->Bool) (l k:Int) (h0:lk l=false) (V:AV):runK PG 1000000 (.call 177 [tsV t,.i .i64 l,.i .i64 k] (mkH [])) (.c (.cal [] (AV.b (lk l)) [] (of_ 3 (.t (oc 5 .z))))) (fun r _=>rvIs V r)=(Con PG 189 [AV.i .i64 l] [] (AV.b (lk l)) []/\True/\r3 ((!!lk l)=false) ((!lk l)=true/\(AV.tup [AV.agg zL,AV.i .i64 2])=V)):=by kernel_rfl
theorem freeN1_vc (t:TS) (lk sv:Int->Bool) (l k:Int) (h0:lk l=true) (h1:sv k=false) (V:AV):runK PG 1000000 (.call 177 [tsV t,.i .i64 l,.i .i64 k] (mkH [])) (.c (.cal [] (AV.b (lk l)) [] (.t (.t (.cal [] (AV.b (sv k)) [] (.t (of_ 4 (.t (.c .z))))))))) (fun r _=>rvIs V r)=(Con PG 189 [AV.i .i64 l] [] (AV.b (lk l)) []/\True/\r2 ((!!lk l)=true) (Con PG 183 [AV.i .i64 k] [] (AV.b (sv k)) []/\(!!lk l)=true/\True/\(!lk l)=false/\r3 ((!!sv k)=false) ((!sv k)=true/\(AV.tup [AV.agg zL,AV.i .i64 2])=V))):=by kernel_rfl
theorem freeN2_vc (t:TS) (lk sv:Int->Bool) (vl:Bool) (l k:Int) (h0:lk l=true) (h1:sv k=true) (h2:vl=false) (V:AV):runK PG 1000000 (.call 177 [tsV t,.i .i64 l,.i .i64 k] (mkH [])) (.c (.cal [] (AV.b (lk l)) [] (.t (.t (.cal [] (AV.b (sv k)) [] (.t (.f (.t (.t (.cal [] (AV.b vl) [] (.t (.f (.t .z))))))))))))) (fun r _=>rvIs V r)=(Con PG 189 [AV.i .i64 l] [] (AV.b (lk l)) []/\True/\r2 ((!!lk l)=true) (Con PG 183 [AV.i .i64 k] [] (AV.b (sv k)) []/\(!!lk l)=true/\True/\(!lk l)=false/\r2 ((!!sv k)=true) (Con PG 35 [tsV t] [] (AV.b vl) []/\(!!sv k)=true/\True/\(!sv k)=false/\(!vl)=true/\(AV.tup [AV.agg zL,AV.i .i64 2])=V))):=by kernel_rfl
theorem mayB_con (s:LS) (ok:s.ok) (l:Nat):Con PG 80 [rwN (s.ts.h l) (s.ts.n l) (s.ts.A l) (s.ts.M l) (s.ts.W l)] [] (.b (mayB (s.row l))) []:=
 mayBe_con _ _ _ _ _ (by have:=ok.q l;omega)
theorem vaN_s (s:LS) (m l:Nat):vaN s (m+1) l=(mayB (s.row l) && vaN s m (l+1)):=rfl
theorem vaF_lp (s:LS) (ok:s.ok) (h:vaS s=false):LDoes PG (loopAt PG 35 0) 12 1 (mkT [(1,.p 0 0),(4,.i .i64 0)]) [some (tsO s.ts)] .ret (mkT [(2,.b false)]) [some (tsO s.ts)]:=by
 refine loop_ind (fun l:Nat=>([(1,.p 0 0),(4,.i .i64 (ofNat l))],[some (tsO s.ts)])) (fun l=>19-l) (fun l=>l<=19/\vaN s (19-l) l=false) ?_ 0 ⟨Nat.zero_le _,h⟩
 intro l ⟨hl,hf⟩
 refine ⟨Nat.le_refl _,?_⟩
 have hlt:l<19:=by
  apply Classical.byContradiction
  intro c
  rw [show 19-l=0 by omega] at hf
  cases hf
 have h1:decide (ofNat l<19)=true:=by simp<;>omega
 rw [show 19-l=(19-(l+1))+1 by omega,vaN_s] at hf
 refine ⟨_,_,(vaR_vc s.ts (fun l=>mayB (s.row l)) l h1 _).mpr ⟨h1,rowOf_con _ _ hlt,mayB_con s ok l,trivial,fun h2=>?_,fun h2=>⟨⟨by simp<;>omega,by simp<;>omega⟩,?_⟩⟩⟩
 · exact .inr ⟨[0],[],_,_,rfl,by simp,st_k [0] (by kernel_rfl)⟩
 · refine .inl ⟨l+1,[0],[],_,_,⟨by omega,?_⟩,(by show 19-(l+1)<19-l;omega),rfl,st_k [0] (by kernel_rfl)⟩
   simp at h2
   simpa [h2] using hf
theorem vaT_lp (s:LS) (ok:s.ok) (h:vaS s=true):LDoes PG (loopAt PG 35 0) 12 1 (mkT [(1,.p 0 0),(4,.i .i64 0)]) [some (tsO s.ts)] (.exit 0) (mkT [(1,.p 0 0)]) [some (tsO s.ts)]:=by
 refine loop_ind (fun l:Nat=>([(1,.p 0 0),(4,.i .i64 (ofNat l))],[some (tsO s.ts)])) (fun l=>19-l) (fun l=>l<=19/\vaN s (19-l) l=true) ?_ 0 ⟨Nat.zero_le _,h⟩
 intro l ⟨hl,hf⟩
 refine ⟨Nat.le_refl _,?_⟩
 by_cases e:l=19
 · subst e
   exact ⟨_,_,(vaE_vc s.ts _).mpr (.inr ⟨[0],[],_,_,rfl,by simp,st_k [0] (by kernel_rfl)⟩)⟩
 · have h1:decide (ofNat l<19)=true:=by simp<;>omega
   rw [show 19-l=(19-(l+1))+1 by omega,vaN_s] at hf
   simp only [Bool.and_eq_true] at hf
   refine ⟨_,_,(vaR_vc s.ts (fun l=>mayB (s.row l)) l h1 _).mpr ⟨h1,rowOf_con _ _ (by omega),mayB_con s ok l,trivial,fun h2=>?_,fun h2=>⟨⟨by simp<;>omega,by simp<;>omega⟩,?_⟩⟩⟩
   · simp [hf.1] at h2
   · exact .inl ⟨l+1,[0],[],_,_,⟨by omega,hf.2⟩,(by show 19-(l+1)<19-l;omega),rfl,st_k [0] (by kernel_rfl)⟩
theorem valid_con (s:LS) (ok:s.ok):Con PG 35 [lsV s] [] (.b (vaS s)) []:=by
 cases h:vaS s with
 | false=>exact con_pureX (vaF_vc s.ts _) rfl ⟨vaF_lp s ok h,rfl⟩
 | true=>exact con_pureX (vaT_vc s.ts _) rfl ⟨vaT_lp s ok h,rfl⟩
theorem vaN_all (s:LS):∀m l,vaN s m l=true->∀j,l<=j->j<l+m->mayB (s.row j)=true
 | 0,l,h,j,a,b=>absurd b (by omega)
 | m+1,l,h,j,a,b=>by
   rw [vaN_s,Bool.and_eq_true] at h
   by_cases e:j=l
   · subst e;exact h.1
   · exact vaN_all s m (l+1) h.2 j (by omega) (by omega)
theorem va_row {s:LS} (h:vaS s=true) {l:Nat} (hl:l<19):mayB (s.row l)=true:=vaN_all s 19 0 h l (Nat.zero_le _) (by omega)
theorem qmB_all (h:Nat->Int) (n:Nat) (A M W:Nat->Int):∀m i,qmB h n A M W m i=true->∀j,i<=j->j<i+m->mayWaitB h (A j) (M j) (W j)=true/\fi n A (A j)=j
 | 0,i,_,j,a,b=>absurd b (by omega)
 | m+1,i,q,j,a,b=>by
   rw [qmB_s] at q
   simp only [Bool.and_eq_true,decide_eq_true_eq] at q
   by_cases e:j=i
   · subst e;exact ⟨q.1,q.2.1⟩
   · exact qmB_all h n A M W m (i+1) q.2.2 j (by omega) (by omega)
structure RowOk (r:Rw):Prop where
 hm:hmB r.h=true
 wait:∀i (h:i<r.q.length),mayWaitB r.h (r.q[i]).a (r.q[i]).m (r.q[i]).w=true
 once:∀i j (h:i<r.q.length) (h':j<r.q.length),(r.q[i]).a=(r.q[j]).a->i=j
 stuck:∀x q,r.q=x :: q->canB r.h x.a x.m=false
theorem mayB_ok {r:Rw} (h:mayB r=true):RowOk r:=by
 unfold mayB mayBeB at h
 simp only [Bool.and_eq_true,Bool.not_eq_true'] at h
 obtain ⟨h1,h2,h3⟩:=h
 have hq:=qmB_all _ _ _ _ _ _ _ h2
 refine ⟨h1,fun i hi=>?_,fun i j hi hj e=>?_,fun x q e=>?_⟩
 · have:=(hq i (Nat.zero_le _) (by omega)).1
   rwa [qA_lt hi,show qM r.q i=r.q[i].m by unfold qM;rw [List.getD_eq_getElem?_getD,List.getElem?_eq_getElem hi];rfl,show qW r.q i=r.q[i].w by unfold qW;rw [List.getD_eq_getElem?_getD,List.getElem?_eq_getElem hi];rfl] at this
 · have a:=(hq i (Nat.zero_le _) (by omega)).2
   have b:=(hq j (Nat.zero_le _) (by omega)).2
   rw [qA_lt hi] at a
   rw [qA_lt hj,<-e] at b
   omega
 · simp only [e] at h3
   simpa [fcB,qA,qM] using h3
theorem RowOk.qok {r:Rw} (h:RowOk r):qok r.q:=by
 intro x hx
 obtain ⟨i,hi,rfl⟩:=List.getElem_of_mem hx
 have:=h.wait i hi
 unfold mayWaitB isServerB at this
 simp only [Bool.and_eq_true,decide_eq_true_eq] at this
 exact this.1
theorem RowOk.len {r:Rw} (h:RowOk r):r.q.length<=3:=by
 apply Classical.byContradiction
 intro c
 have b0:=h.qok _ (List.getElem_mem (l:=r.q) (n:=0) (by omega))
 have b1:=h.qok _ (List.getElem_mem (l:=r.q) (n:=1) (by omega))
 have b2:=h.qok _ (List.getElem_mem (l:=r.q) (n:=2) (by omega))
 have b3:=h.qok _ (List.getElem_mem (l:=r.q) (n:=3) (by omega))
 have d01:(r.q[0]'(by omega)).a≠(r.q[1]'(by omega)).a:=fun e=>absurd (h.once 0 1 (by omega) (by omega) e) (by decide)
 have d02:(r.q[0]'(by omega)).a≠(r.q[2]'(by omega)).a:=fun e=>absurd (h.once 0 2 (by omega) (by omega) e) (by decide)
 have d03:(r.q[0]'(by omega)).a≠(r.q[3]'(by omega)).a:=fun e=>absurd (h.once 0 3 (by omega) (by omega) e) (by decide)
 have d12:(r.q[1]'(by omega)).a≠(r.q[2]'(by omega)).a:=fun e=>absurd (h.once 1 2 (by omega) (by omega) e) (by decide)
 have d13:(r.q[1]'(by omega)).a≠(r.q[3]'(by omega)).a:=fun e=>absurd (h.once 1 3 (by omega) (by omega) e) (by decide)
 have d23:(r.q[2]'(by omega)).a≠(r.q[3]'(by omega)).a:=fun e=>absurd (h.once 2 3 (by omega) (by omega) e) (by decide)
 omega
theorem askR_ok {r:Rw} (h:RowOk r) {k:Int} (m:Int) (hk:0<=k/\k<3):(askR r k m).q.length<=1000/\qok (askR r k m).q:=by
 have h1:=h.len
 unfold askR
 split
 · refine ⟨by simp;omega,fun x hx=>?_⟩
   simp only [List.mem_append,List.mem_cons] at hx
   rcases hx with hx | rfl | hx
   · exact h.qok x (List.mem_of_mem_take hx)
   · exact hk
   · exact h.qok x (List.mem_of_mem_drop hx)
 · exact ⟨by simp;omega,h.qok⟩
theorem freeR_ok {r:Rw} (h:RowOk r) (k:Int):(freeR r k).q.length<=1000/\qok (freeR r k).q:=by
 have h1:=h.len
 unfold freeR
 refine ⟨by simp;omega,fun x hx=>?_⟩
 simp only [List.mem_append] at hx
 rcases hx with hx | hx
 · exact h.qok x (List.mem_of_mem_take hx)
 · exact h.qok x (List.mem_of_mem_drop hx)
theorem set_ts (s:LS) (l:Nat) (r:Rw):(s.set l r).ts=s.ts.put l r.h r.q.length (qA r.q) (qM r.q) (qW r.q):=by
 unfold LS.set LS.ts TS.put
 simp only [TS.mk.injEq,true_and]
 refine ⟨?_,?_,?_,?_,?_⟩<;>(funext j;cases Nat.beq j l<;>rfl)
theorem zL_eq:zL=[.i .i64 0,.i .i64 0,.i .i64 0,.l0,.l0,.i .i64 0,.i .i64 0,.i .i64 0,.i .i64 0,.i .i64 0,.i .i64 0,.i .i64 0,.i .i64 0,.i .i64 0,.l0,.l0,.l0,.l0,.i .i64 0,.i .i64 0,.i .i64 0,.i .i64 0,.i .i64 0,.i .i64 0,.i .i64 0,.i .i64 0,.i .i64 0,.l0,.l0,.l0,.l0,.i .i64 0,.i .i64 0,.i .i64 0,.i .i64 0,.i .i64 0,.i .i64 0,.i .i64 0,.i .i64 0,.i .i64 0,.l0,.l0,.l0,.l0,.i .i64 0,.i .i64 0,.i .i64 0,.i .i64 0,.i .i64 0,.i .i64 0,.i .i64 0,.i .i64 0,.i .i64 0,.i .i64 0,.i .i64 0,.i .i64 0,.i .i64 0,.i .i64 0,.i .i64 0,.i .i64 0,.i .i64 0,.i .i64 0,.i .i64 0,.i .i64 0,.i .i64 0,.i .i64 0,.i .i64 0,.i .i64 0,.i .i64 0,.i .i64 0,.i .i64 0,.i .i64 0,.i .i64 0,.i .i64 0,.i .i64 0,.i .i64 0,.i .i64 0,.i .i64 0,.i .i64 0,.i .i64 0,.i .i64 0,.i .i64 0,.i .i64 0,.i .i64 0,.i .i64 0,.i .i64 0,.i .i64 0,.i .i64 0,.i .i64 0,.i .i64 0,.i .i64 0,.i .i64 0,.i .i64 0,.i .i64 0,.i .i64 0,.i .i64 0,.i .i64 0,.i .i64 0,.i .i64 0,.i .i64 0,.i .i64 0,.l0,.l0,.l0,.l0,.l0,.l0,.l0,.l0,.l0,.l0,.l0,.l0,.l0,.l0,.l0,.l0,.l0,.l0,.l0]:=by kernel_rfl
theorem tsz_eq:tsL zS.ts=[.i .i64 0,.i .i64 0,.i .i64 0,isv 0 (fun _=>0),isv 0 (fun _=>0),.i .i64 0,.i .i64 0,.i .i64 0,.i .i64 0,.i .i64 0,.i .i64 0,.i .i64 0,.i .i64 0,.i .i64 0,isv 0 (fun _=>0),isv 0 (fun _=>0),svN 0 (fun _=>0) (fun _=>0) (fun _=>0),svN 0 (fun _=>0) (fun _=>0) (fun _=>0),.i .i64 0,.i .i64 0,.i .i64 0,.i .i64 0,.i .i64 0,.i .i64 0,.i .i64 0,.i .i64 0,.i .i64 0,isv 0 (fun _=>0),isv 0 (fun _=>0),svN 0 (fun _=>0) (fun _=>0) (fun _=>0),svN 0 (fun _=>0) (fun _=>0) (fun _=>0),.i .i64 0,.i .i64 0,.i .i64 0,.i .i64 0,.i .i64 0,.i .i64 0,.i .i64 0,.i .i64 0,.i .i64 0,isv 0 (fun _=>0),isv 0 (fun _=>0),svN 0 (fun _=>0) (fun _=>0) (fun _=>0),svN 0 (fun _=>0) (fun _=>0) (fun _=>0),.i .i64 0,.i .i64 0,.i .i64 0,.i .i64 0,.i .i64 0,.i .i64 0,.i .i64 0,.i .i64 0,.i .i64 0,.i .i64 0,.i .i64 0,.i .i64 0,.i .i64 0,.i .i64 0,.i .i64 0,.i .i64 0,.i .i64 0,.i .i64 0,.i .i64 0,.i .i64 0,.i .i64 0,.i .i64 0,.i .i64 0,.i .i64 0,.i .i64 0,.i .i64 0,.i .i64 0,.i .i64 0,.i .i64 0,.i .i64 0,.i .i64 0,.i .i64 0,.i .i64 0,.i .i64 0,.i .i64 0,.i .i64 0,.i .i64 0,.i .i64 0,.i .i64 0,.i .i64 0,.i .i64 0,.i .i64 0,.i .i64 0,.i .i64 0,.i .i64 0,.i .i64 0,.i .i64 0,.i .i64 0,.i .i64 0,.i .i64 0,.i .i64 0,.i .i64 0,.i .i64 0,.i .i64 0,.i .i64 0,.i .i64 0,.i .i64 0,svN 0 (qA []) (qM []) (qW []),svN 0 (qA []) (qM []) (qW []),svN 0 (qA []) (qM []) (qW []),svN 0 (qA []) (qM []) (qW []),svN 0 (qA []) (qM []) (qW []),svN 0 (qA []) (qM []) (qW []),svN 0 (qA []) (qM []) (qW []),svN 0 (qA []) (qM []) (qW []),svN 0 (qA []) (qM []) (qW []),svN 0 (qA []) (qM []) (qW []),svN 0 (qA []) (qM []) (qW []),svN 0 (qA []) (qM []) (qW []),svN 0 (qA []) (qM []) (qW []),svN 0 (qA []) (qM []) (qW []),svN 0 (qA []) (qM []) (qW []),svN 0 (qA []) (qM []) (qW []),svN 0 (qA []) (qM []) (qW []),svN 0 (qA []) (qM []) (qW []),svN 0 (qA []) (qM []) (qW [])]:=by kernel_rfl
theorem zL_vw:VWL zL (tsL zS.ts):=by
 rw [zL_eq,tsz_eq]
 exact ⟨.refl _,.refl _,.refl _,VW.nil _ _,VW.nil _ _,.refl _,.refl _,.refl _,.refl _,.refl _,.refl _,.refl _,.refl _,.refl _,VW.nil _ _,VW.nil _ _,VW.nil _ _,VW.nil _ _,.refl _,.refl _,.refl _,.refl _,.refl _,.refl _,.refl _,.refl _,.refl _,VW.nil _ _,VW.nil _ _,VW.nil _ _,VW.nil _ _,.refl _,.refl _,.refl _,.refl _,.refl _,.refl _,.refl _,.refl _,.refl _,VW.nil _ _,VW.nil _ _,VW.nil _ _,VW.nil _ _,.refl _,.refl _,.refl _,.refl _,.refl _,.refl _,.refl _,.refl _,.refl _,.refl _,.refl _,.refl _,.refl _,.refl _,.refl _,.refl _,.refl _,.refl _,.refl _,.refl _,.refl _,.refl _,.refl _,.refl _,.refl _,.refl _,.refl _,.refl _,.refl _,.refl _,.refl _,.refl _,.refl _,.refl _,.refl _,.refl _,.refl _,.refl _,.refl _,.refl _,.refl _,.refl _,.refl _,.refl _,.refl _,.refl _,.refl _,.refl _,.refl _,.refl _,.refl _,.refl _,.refl _,.refl _,.refl _,.refl _,.refl _,VW.nil _ _,VW.nil _ _,VW.nil _ _,VW.nil _ _,VW.nil _ _,VW.nil _ _,VW.nil _ _,VW.nil _ _,VW.nil _ _,VW.nil _ _,VW.nil _ _,VW.nil _ _,VW.nil _ _,VW.nil _ _,VW.nil _ _,VW.nil _ _,VW.nil _ _,VW.nil _ _,VW.nil _ _,trivial⟩
theorem askN_con (s:LS) (ok:s.ok) (l k m:Int) (h:okA s l k m=false):Con PG 175 [lsV s,.i .i64 l,.i .i64 k,.i .i64 m] [] (.tup [lsV zS,.i .i64 2]) []:=by
 have h0:Con PG 175 [lsV s,.i .i64 l,.i .i64 k,.i .i64 m] [] (.tup [.agg zL,.i .i64 2]) []:=by
  unfold okA at h
  cases h1:isLockB l with
  | false=>exact con_pureX (askN0_vc s.ts isLockB l k m h1 _) (by kernel_rfl) (by repeat' first | exact trivial | exact isLock_con _ | exact rfl | (simp only [h1,Bool.not_true,Bool.not_false];done) | apply And.intro)
  | true=>
    cases h2:isServerB k with
    | false=>exact con_pureX (askN1_vc s.ts isLockB isServerB l k m h1 h2 _) (by kernel_rfl) (by repeat' first | exact trivial | exact isLock_con _ | exact isServer_con _ | exact rfl | (simp only [h1,h2,Bool.not_true,Bool.not_false];done) | apply And.intro)
    | true=>
      cases h3:isWishB m with
      | false=>exact con_pureX (askN2_vc s.ts isLockB isServerB isWishB l k m h1 h2 h3 _) (by kernel_rfl) (by repeat' first | exact trivial | exact isLock_con _ | exact isServer_con _ | exact isWish_con _ | exact rfl | (simp only [h1,h2,h3,Bool.not_true,Bool.not_false];done) | apply And.intro)
      | true=>
        have h4:vaS s=false:=by simpa [h1,h2,h3] using h
        exact con_pureX (askN3_vc s.ts isLockB isServerB isWishB (vaS s) l k m h1 h2 h3 h4 _) (by kernel_rfl) (by repeat' first | exact trivial | exact isLock_con _ | exact isServer_con _ | exact isWish_con _ | exact valid_con s ok | exact rfl | (simp only [h1,h2,h3,h4,Bool.not_true,Bool.not_false];done) | apply And.intro)
 exact h0.post (.tup ⟨.agg zL_vw,.refl _,trivial⟩) trivial
theorem ask_con (s:LS) (ok:s.ok) (l k m:Int):Con PG 175 [lsV s,.i .i64 l,.i .i64 k,.i .i64 m] [] (.tup [lsV (askS s l k m),.i .i64 (askE s l k m)]) []:=by
 unfold askS askE
 cases h:okA s l k m with
 | false=>exact askN_con s ok l k m h
 | true=>
   unfold okA at h
   simp only [Bool.and_eq_true] at h
   obtain ⟨h1,h2,h3,h4⟩:=h
   simp only [cond_true]
   have hl:0<=l/\l<19:=by simpa [isLockB] using h1
   have hk:0<=k/\k<3:=by simpa [isServerB] using h2
   obtain ⟨l,rfl⟩:∃q:Nat,l=ofNat q:=⟨l.toNat,by simp;omega⟩
   have hlt:l<19:=by have:=hl.2;simp at this;omega
   have hr:=mayB_ok (va_row h4 hlt)
   have ha:=askR_ok hr m hk
   have hlay:=lay_con s.ts (askR (s.row l) k m) ha.1 ha.2 l hlt
   rw [<-set_ts] at hlay
   have hask:=asked_con (s.row l) k m hk (by have:=hr.len;omega)
   refine con_pureX (askO_vc s.ts (s.set l (onR (askR (s.row l) k m))).ts isLockB isServerB isWishB (vaS s) (askR (s.row l) k m).h (askR (s.row l) k m).q.length (qA (askR (s.row l) k m).q) (qM (askR (s.row l) k m).q) (qW (askR (s.row l) k m).q) l k m h1 h2 h3 h4 _) (by kernel_rfl) ?_
   repeat' first | exact trivial | exact isLock_con _ | exact isServer_con _ | exact isWish_con _ | exact valid_con s ok | exact copied_con _ ok | exact rowOfZ_con _ _ hlt | exact hask | exact hlay | exact rfl | (simp only [h1,h2,h3,h4,Bool.not_true,Bool.not_false];done) | apply And.intro
theorem freeN_con (s:LS) (ok:s.ok) (l k:Int) (h:okF s l k=false):Con PG 177 [lsV s,.i .i64 l,.i .i64 k] [] (.tup [lsV zS,.i .i64 2]) []:=by
 have h0:Con PG 177 [lsV s,.i .i64 l,.i .i64 k] [] (.tup [.agg zL,.i .i64 2]) []:=by
  unfold okF at h
  cases h1:isLockB l with
  | false=>exact con_pureX (freeN0_vc s.ts isLockB l k h1 _) (by kernel_rfl) (by repeat' first | exact trivial | exact isLock_con _ | exact rfl | (simp only [h1,Bool.not_true,Bool.not_false];done) | apply And.intro)
  | true=>
    cases h2:isServerB k with
    | false=>exact con_pureX (freeN1_vc s.ts isLockB isServerB l k h1 h2 _) (by kernel_rfl) (by repeat' first | exact trivial | exact isLock_con _ | exact isServer_con _ | exact rfl | (simp only [h1,h2,Bool.not_true,Bool.not_false];done) | apply And.intro)
    | true=>
      have h4:vaS s=false:=by simpa [h1,h2] using h
      exact con_pureX (freeN2_vc s.ts isLockB isServerB (vaS s) l k h1 h2 h4 _) (by kernel_rfl) (by repeat' first | exact trivial | exact isLock_con _ | exact isServer_con _ | exact valid_con s ok | exact rfl | (simp only [h1,h2,h4,Bool.not_true,Bool.not_false];done) | apply And.intro)
 exact h0.post (.tup ⟨.agg zL_vw,.refl _,trivial⟩) trivial
theorem free_con (s:LS) (ok:s.ok) (l k:Int):Con PG 177 [lsV s,.i .i64 l,.i .i64 k] [] (.tup [lsV (freeS s l k),.i .i64 (freeE s l k)]) []:=by
 unfold freeS freeE
 cases h:okF s l k with
 | false=>exact freeN_con s ok l k h
 | true=>
   unfold okF at h
   simp only [Bool.and_eq_true] at h
   obtain ⟨h1,h2,h4⟩:=h
   simp only [cond_true]
   have hl:0<=l/\l<19:=by simpa [isLockB] using h1
   have hk:0<=k/\k<3:=by simpa [isServerB] using h2
   obtain ⟨l,rfl⟩:∃q:Nat,l=ofNat q:=⟨l.toNat,by simp;omega⟩
   have hlt:l<19:=by have:=hl.2;simp at this;omega
   have hr:=mayB_ok (va_row h4 hlt)
   have ha:=freeR_ok hr k
   have hlay:=lay_con s.ts (freeR (s.row l) k) ha.1 ha.2 l hlt
   rw [<-set_ts] at hlay
   have hfree:=freed_con (s.row l) k hk (by have:=hr.len;omega)
   refine con_pureX (freeO_vc s.ts (s.set l (onR (freeR (s.row l) k))).ts isLockB isServerB (vaS s) (freeR (s.row l) k).h (freeR (s.row l) k).q.length (qA (freeR (s.row l) k).q) (qM (freeR (s.row l) k).q) (qW (freeR (s.row l) k).q) l k h1 h2 h4 _) (by kernel_rfl) ?_
   repeat' first | exact trivial | exact isLock_con _ | exact isServer_con _ | exact valid_con s ok | exact copied_con _ ok | exact rowOfZ_con _ _ hlt | exact hfree | exact hlay | exact rfl | (simp only [h1,h2,h4,Bool.not_true,Bool.not_false];done) | apply And.intro
theorem dropN0_vc (t:TS) (sv:Int->Bool) (k:Int) (h1:sv k=false) (V:AV):runK PG 1000000 (.call 182 [tsV t,.i .i64 k] (mkH [])) (.c (.cal [] (tsV t) [] (.cal [] (AV.b (sv k)) [] (of_ 3 (.t (.c .z)))))) (fun r _=>rvIs V r)=(Con PG 190 [tsV t] [] (tsV t) []/\Con PG 183 [AV.i .i64 k] [] (AV.b (sv k)) []/\True/\r3 ((!!sv k)=false) ((!sv k)=true/\(tsV t)=V)):=by kernel_rfl
theorem dropN1_vc (t:TS) (sv:Int->Bool) (vl:Bool) (k:Int) (h1:sv k=true) (h2:vl=false) (V:AV):runK PG 1000000 (.call 182 [tsV t,.i .i64 k] (mkH [])) (.c (.cal [] (tsV t) [] (.cal [] (AV.b (sv k)) [] (.t (.t (.cal [] (AV.b vl) [] (.t (.f (.t .z))))))))) (fun r _=>rvIs V r)=(Con PG 190 [tsV t] [] (tsV t) []/\Con PG 183 [AV.i .i64 k] [] (AV.b (sv k)) []/\True/\r2 ((!!sv k)=true) (Con PG 35 [tsV t] [] (AV.b vl) []/\(!!sv k)=true/\True/\(!sv k)=false/\(!vl)=true/\(tsV t)=V)):=by kernel_rfl
theorem dropR_vc (t t1:TS) (ah:Nat->Int) (an:Nat) (aA aM aW:Nat->Int) (k:Int) (l:Nat) (h1:decide (ofNat l<19)=true) (K:Res->Orc->Prop):runK PG 1000000 (.code (loopAt PG 182 0) 29 (mkT [(1,.i .i64 k),(4,.p 0 0),(5,.p 1 0),(18,.i .i64 (ofNat l))]) (mkH [some tzO,some (tsZ t)])) (.t (.cal [1] (rwN (TS.h t l) (TS.n t l) (TS.A t l) (TS.M t l) (TS.W t l)) [.keep] (.cal [] (rwN ah an aA aM aW) [] (.cal [1] (.tup []) [.set (tsZ t1)] .z)))) K=(decide (ofNat l<19)=true/\Con PG 79 [.p 0 0,inv l] [some (tsZ t)] (rwN (TS.h t l) (TS.n t l) (TS.A t l) (TS.M t l) (TS.W t l)) [.keep]/\Con PG 193 [rwN (TS.h t l) (TS.n t l) (TS.A t l) (TS.M t l) (TS.W t l),.i .i64 k] [] (rwN ah an aA aM aW) []/\Con PG 191 [.p 0 0,inv l,rwN ah an aA aM aW] [some (tsZ t)] (.tup []) [.set (tsZ t1)]/\rg (ofNat l+1)/\K (.st .nrm (zz0 (zz1 (.i .i64 k) (zz0 (zz0 .e (zzl (.agg [.i .i64 (TS.h t l 0),.i .i64 (TS.h t l 1),.i .i64 (TS.h t l 2),.sv 3 (TS.n t l) (qF (TS.A t l) (TS.M t l) (TS.W t l))]))) (zz0 (zzl (.b (decide (ofNat l<19)))) (zzl (.i .i64 (ofNat l+1))))) (zz1 (.p 1 0) (zz0 .e (zzl (.agg [.i .i64 (ah 0),.i .i64 (ah 1),.i .i64 (ah 2),.sv 3 an (qF aA aM aW)]))) (zz0 (zzn l) .e))) (zz0 (zz1 (.p 0 0) (zz0 .e (zzl (.i .i64 k))) (zz0 (zzn l) .e)) (zz1 (inv l) (zz0 (zzl (.i .i64 (ofNat l+1))) zzu) (zz0 (zzn l) .e)))) ⟨zz1 (tzO) (zzl (tsZ t1)) .e,2,[1]⟩) .z):=by kernel_rfl
theorem dropE_vc (t:TS) (k:Int) (K:Res->Orc->Prop):runK PG 1000000 (.code (loopAt PG 182 0) 29 (mkT [(1,.i .i64 k),(4,.p 0 0),(5,.p 1 0),(18,.i .i64 19)]) (mkH [some tzO,some (tsZ t)])) (.c .z) K=(K (.st (.exit 0) (zz0 (zz1 (.i .i64 k) (zz0 .e (zz0 (zzl (.b false)) .e)) (zzl (.p 1 0))) (zz0 (zzl (.p 0 0)) (zz0 (zz0 (zzl (.i .i64 19)) .e) .e))) ⟨zz1 (tzO) (zzl (tsZ t)) .e,2,[]⟩) .z):=by kernel_rfl
theorem dropL_vc (t t1:TS) (sv:Int->Bool) (vl:Bool) (k:Int) (h1:sv k=true) (h2:vl=true) (V:AV):runK PG 1000000 (.call 182 [tsV t,.i .i64 k] (mkH [])) (.c (.cal [] (tsV t) [] (.cal [] (AV.b (sv k)) [] (.t (.t (.cal [] (AV.b vl) [] (.t (.f (.f (.lop [1,2] [1,4,5,18] 2 (.exit 0) [(4,AV.p 0 0),(5,AV.p 1 0)] [some tzO,some (tsZ t1)] .z)))))))))) (fun r _=>rvIs V r)=(Con PG 190 [tsV t] [] (tsV t) []/\Con PG 183 [AV.i .i64 k] [] (AV.b (sv k)) []/\True/\r2 ((!!sv k)=true) (Con PG 35 [tsV t] [] (AV.b vl) []/\(!!sv k)=true/\True/\(!sv k)=false/\(!vl)=false/\LDoes PG (loopAt PG 182 0) 29 2 (mkT [(1,AV.i .i64 k),(4,AV.p 0 0),(5,AV.p 1 0),(18,AV.i .i64 0)]) [some tzO,some (tsZ t)] (.exit 0) (mkT [(4,AV.p 0 0),(5,AV.p 1 0)]) [some tzO,some (tsZ t1)]/\(tsV t1)=V)):=by kernel_rfl
theorem holdsN0_vc (t:TS) (sv:Int->Bool) (k:Int) (h1:sv k=false) (V:AV):runK PG 1000000 (.call 142 [tsV t,.i .i64 k] (mkH [])) (.c (.cal [] (AV.b (sv k)) [] (of_ 3 (.t (.c .z))))) (fun r _=>rvIs V r)=(Con PG 183 [AV.i .i64 k] [] (AV.b (sv k)) []/\True/\r3 ((!!sv k)=false) ((!sv k)=true/\AV.l0=V)):=by kernel_rfl
theorem holdsN1_vc (t:TS) (sv:Int->Bool) (vl:Bool) (k:Int) (h1:sv k=true) (h2:vl=false) (V:AV):runK PG 1000000 (.call 142 [tsV t,.i .i64 k] (mkH [])) (.c (.cal [] (AV.b (sv k)) [] (.t (.t (.cal [] (AV.b vl) [] (.t (.f (.t .z)))))))) (fun r _=>rvIs V r)=(Con PG 183 [AV.i .i64 k] [] (AV.b (sv k)) []/\True/\r2 ((!!sv k)=true) (Con PG 35 [tsV t] [] (AV.b vl) []/\(!!sv k)=true/\True/\(!sv k)=false/\(!vl)=true/\AV.l0=V)):=by kernel_rfl
theorem holdsR0_vc (t:TS) (k:Int) (l m:Nat) (F:Nat->Nat->CV) (h1:decide (ofNat l<19)=true) (h2:(!decide (List.getD [TS.h t l 0,TS.h t l 1,TS.h t l 2] (Int.toNat k) 0=0))=false) (K:Res->Orc->Prop):runK PG 1000000 (.code (loopAt PG 142 0) 39 (mkT [(1,.i .i64 k),(2,.p 0 0),(5,.lr 1 3 0 m false),(17,.i .i64 (ofNat l))]) (mkH [some (tsO t),some (.rows 80 3 m F)])) (.t (.cal [0] (rwN (TS.h t l) (TS.n t l) (TS.A t l) (TS.M t l) (TS.W t l)) [.keep] (.s (.f .z) .z))) K=((fun (q0:AV)=>(decide (ofNat l<19)=true/\Con PG 79 [.p 0 0,inv l] [some (tsO t)] (rwN (TS.h t l) (TS.n t l) (TS.A t l) (TS.M t l) (TS.W t l)) [.keep]/\True/\(0<=k/\k<3)/\Int.toNat k<3/\(!decide (List.getD [TS.h t l 0,TS.h t l 1,TS.h t l 2] (Int.toNat k) (0:Int)=(0:Int)))=false/\rg (ofNat l+1)/\K (.st .nrm (zz0 (zz1 (.i .i64 k) (zz0 (zz1 (.p 2 0) .e (zzl (.p 2 0))) (zz0 (zzn l) (zzl (.b !decide (List.getD [TS.h t l 0,TS.h t l 1,TS.h t l 2] (Int.toNat k) (0:Int)=(0:Int)))))) (zz1 (.lr 1 3 0 m false) (zz0 (zzl (.i .i64 (ofNat l+1))) (zzl q0)) (zz0 (zz1 (.agg [.i .i64 (TS.h t l 0),.i .i64 (TS.h t l 1),.i .i64 (TS.h t l 2),.sv 3 (TS.n t l) (qF (TS.A t l) (TS.M t l) (TS.W t l))]) (zzl (.i .i64 (ofNat l+1))) .e) .e))) (zz1 (.p 0 0) (zz0 (zz1 q0 .e (zzl (.ps 2 0 1 3 (Int.toNat k)))) (zz0 (zzn l) .e)) (zz1 (inv l) (zz0 (zzl (.b (decide (ofNat l<19)))) (zzl q0)) (zz0 (zzl (.i .i64 k)) .e)))) ⟨zz1 (tsO t) (zzl
 (AObj.rows 80 3 m F)) (zzl (AObj.cells 129 4 [.i .i64 0,.i .i64 0,.i .i64 0,.l0] (zz1 (.i .i64 (TS.h t l 0)) (zz1 (.i .i64 (TS.h t l 1)) (zzl (.sv 3 (TS.n t l) (qF (TS.A t l) (TS.M t l) (TS.W t l)))) .e) (zzl (.i .i64 (TS.h t l 2)))))),3,[2,2]⟩) .z)) (.i .i64 (List.getD [TS.h t l 0,TS.h t l 1,TS.h t l 2] (Int.toNat k) 0))):=by kernel_rfl
theorem holdsR1_vc (t:TS) (wn k:Int) (l m:Nat) (F:Nat->Nat->CV) (h1:decide (ofNat l<19)=true) (h2:(!decide (List.getD [TS.h t l 0,TS.h t l 1,TS.h t l 2] (Int.toNat k) 0=0))=true) (K:Res->Orc->Prop):runK PG 1000000 (.code (loopAt PG 142 0) 39 (mkT [(1,.i .i64 k),(2,.p 0 0),(5,.lr 1 3 0 m false),(17,.i .i64 (ofNat l))]) (mkH [some (tsO t),some (.rows 80 3 m F)])) (.t (.cal [0] (rwN (TS.h t l) (TS.n t l) (TS.A t l) (TS.M t l) (TS.W t l)) [.keep] (.s (.t (.cal [] (.i .i64 wn) [] .z)) .z))) K=((fun (q1:AV)=>((fun (q0:AV)=>(decide (ofNat l<19)=true/\Con PG 79 [.p 0 0,inv l] [some (tsO t)] (rwN (TS.h t l) (TS.n t l) (TS.A t l) (TS.M t l) (TS.W t l)) [.keep]/\True/\(0<=k/\k<3)/\Int.toNat k<3/\(!decide (List.getD [TS.h t l 0,TS.h t l 1,TS.h t l 2] (Int.toNat k) (0:Int)=(0:Int)))=true/\Con PG 184 [rwN (TS.h t l) (TS.n t l) (TS.A t l) (TS.M t l) (TS.W t l),.i .i64 k] [] (.i .i64 wn) []/\(0+m<=m/\True/\m+1<=140737488355328/\(3*(m+1)+1536)*24<=562949953421312)/\rg (ofNat l+1)/\K (.st .nrm (zz0 (zz1 (.i .i64 k) (zz0 (zz1 (.p 2 0) (zz0 (zzl q1) .e) (zzl (.p 2 0))) (zz0 (zz1 (inv l) (zzl (.l 3 0 1 1 3 true)) .e) (zzl (.b !decide (List.getD [TS.h t l 0,TS.h t l 1,TS.h t l 2] (Int.toNat k) (0:Int)=(0:Int)))))) (zz1 (.lr 4 3 0 (addN m 1) false) (zz0 (zz1 (.i .i64 (ofNat l+1)) (zzl (.i .i64 wn)) .e) (zzl q0)) (zz0 (zz1 q1 (zzl (.i .i64 (ofNat l+1))) .e) (zzn l))))
 (zz1 (.p 0 0) (zz0 (zz1 q0 (zz0 (zzl (.i .i64 k)) .e) (zzl (.ps 2 0 1 3 (Int.toNat k)))) (zz0 (zz1 (inv l) (zzl (.lr 4 3 0 (addN m 1) false)) .e) (zzl (.lr 1 3 0 m false)))) (zz1 (inv l) (zz0 (zz1 (.b (decide (ofNat l<19))) (zzl (.agg [inv l,.i .i64 (List.getD [TS.h t l 0,TS.h t l 1,TS.h t l 2] (Int.toNat k) 0),.i .i64 wn])) .e) (zzl q0)) (zz0 (zzl (.i .i64 k)) (zzl q0))))) ⟨zz1 (tsO t) (zz0 (zzl (AObj.cells 80 3 [] (zz1 (inv l) (zzl q0) (zzl (.i .i64 wn))))) .e) (zz1 (AObj.cells 129 4 [.i .i64 0,.i .i64 0,.i .i64 0,.l0] (zz1 (.i .i64 (TS.h t l 0)) (zz1 (.i .i64 (TS.h t l 1)) (zzl (.sv 3 (TS.n t l) (qF (TS.A t l) (TS.M t l) (TS.W t l)))) .e) (zzl (.i .i64 (TS.h t l 2))))) (zzl (AObj.rows 80 3 (addN m 1) (appZ m F (listF 3 [CV.i .i64 (ofNat l),CV.i .i64 (List.getD [TS.h t l 0,TS.h t l 1,TS.h t l 2] (Int.toNat k) 0),CV.i .i64 wn] 1)))) .e),5,[4,1,3,2,2]⟩) .z)) (.i .i64 (List.getD [TS.h t l 0,TS.h t l 1,TS.h t l 2] (Int.toNat k) 0)))) (.agg [.i .i64 (TS.h t l 0),.i .i64 (TS.h t l 1),.i .i64 (TS.h t l 2),.sv 3 (TS.n t l) (qF (TS.A t l) (TS.M t l) (TS.W t l))])):=by kernel_rfl
theorem holdsE_vc (t:TS) (k:Int) (m:Nat) (F:Nat->Nat->CV) (K:Res->Orc->Prop):runK PG 1000000 (.code (loopAt PG 142 0) 39 (mkT [(1,.i .i64 k),(2,.p 0 0),(5,.lr 1 3 0 m false),(17,.i .i64 19)]) (mkH [some (tsO t),some (.rows 80 3 m F)])) (.c .z) K=(K (.st (.exit 0) (zz0 (zz1 (.i .i64 k) .e (zz1 (.lr 1 3 0 m false) (zz0 (zzl (.i .i64 19)) .e) .e)) (zz1 (.p 0 0) .e (zz0 (zz0 (zzl (.b false)) .e) .e))) ⟨zz1 (tsO t) (zzl (AObj.rows 80 3 m F)) .e,2,[]⟩) .z):=by kernel_rfl
theorem holdsL_vc (t:TS) (sv:Int->Bool) (vl:Bool) (G:Nat->Nat->CV) (gn:Nat) (k:Int) (h1:sv k=true) (h2:vl=true) (K:Res->Orc->Prop):runK PG 1000000 (.call 142 [tsV t,.i .i64 k] (mkH [])) (.c (.cal [] (.b (sv k)) [] (.t (.t (.cal [] (.b vl) [] (.t (.f (.f (.lop [0] [1,2,5,17] 1 (.exit 0) [(5,.lr 1 3 0 gn false)] [some (tsO t),some (.rows 80 3 gn G)] .z))))))))) K=(Con PG 183 [.i .i64 k] [] (.b (sv k)) []/\True/\r2 ((!!sv k)=true) (Con PG 35 [tsV t] [] (.b vl) []/\(!!sv k)=true/\True/\(!sv k)=false/\(!vl)=false/\LDoes PG (loopAt PG 142 0) 39 1 (mkT [(1,.i .i64 k),(2,.p 0 0),(5,.l0),(17,.i .i64 0)]) [some (tsO t)] (.exit 0) (mkT [(5,.lr 1 3 0 gn false)]) [some (tsO t),some (.rows 80 3 gn G)]/\K (.rv (.lr 1 3 0 gn false) ⟨zz1 (tsO t) (zzl (AObj.rows 80 3 gn G)) .e,2,[1,0,0]⟩) .z)):=by kernel_rfl
theorem apq3 {n i j i0 i1:Nat} {f g:Nat->Nat->CV} {A M W A' M' W':Nat->Int} (hj:j<3) (h1:∀j,j<3->f i j=qF A M W i0 j) (h2:∀j,j<3->g (i-n) j=qF A' M' W' i1 j):appZ n f g i j=if i<n then qF A M W i0 j else qF A' M' W' i1 j:=by
 match j,hj with
 | 0,h=>rw [appZ_i (k:=.i64) (a:=A i0) (b:=A' i1) (h1 0 h) (h2 0 h)];split<;>rfl
 | 1,h=>rw [appZ_i (k:=.i64) (a:=M i0) (b:=M' i1) (h1 1 h) (h2 1 h)];split<;>rfl
 | 2,h=>rw [appZ_i (k:=.i64) (a:=W i0) (b:=W' i1) (h1 2 h) (h2 2 h)];split<;>rfl
theorem listF_q (a m w:Int) (i j:Nat) (hj:j<3):listF 3 [.i .i64 a,.i .i64 m,.i .i64 w] 1 i j=qF (fun _=>a) (fun _=>m) (fun _=>w) 0 j:=by
 match j,hj with
 | 0,_=>rfl
 | 1,_=>rfl
 | 2,_=>rfl
theorem dropN_set (s:LS) (k:Int) (l:Nat):dropN s k (l+1)=(dropN s k l).set l (onR (freeR (s.row l) k)):=by
 unfold dropN LS.set
 simp only [LS.mk.injEq,true_and]
 funext j
 cases h1:Nat.beq j l with
 | true=>
   have:=Nat.eq_of_beq_eq_true h1
   subst this
   have:Nat.blt j (j+1)=true:=by rw [Nat.blt_eq];omega
   rw [this];rfl
 | false=>
   have hne:=Nat.ne_of_beq_eq_false h1
   have:Nat.blt j (l+1)=Nat.blt j l:=by
    rw [Bool.eq_iff_iff,Nat.blt_eq,Nat.blt_eq];omega
   rw [this];rfl
theorem dropN_0 (s:LS) (k:Int):dropN s k 0=s:=by
 unfold dropN
 have:∀j,Nat.blt j 0=false:=fun j=>by rw [Bool.eq_false_iff,ne_eq,Nat.blt_eq];omega
 simp [this]
theorem dropN_row (s:LS) (k:Int) (l:Nat):(dropN s k l).row l=s.row l:=by
 unfold dropN
 have:Nat.blt l l=false:=by rw [Bool.eq_false_iff,ne_eq,Nat.blt_eq];omega
 simp [this]
theorem drop_lp (s:LS) (k:Int) (hk:0<=k/\k<3) (h:vaS s=true):LDoes PG (loopAt PG 182 0) 29 2 (mkT [(1,.i .i64 k),(4,.p 0 0),(5,.p 1 0),(18,.i .i64 0)]) [some tzO,some (tsZ s.ts)] (.exit 0) (mkT [(4,.p 0 0),(5,.p 1 0)]) [some tzO,some (tsZ (dropN s k 19).ts)]:=by
 have key:=loop_ind (P:=PG) (c:=loopAt PG 182 0) (n:=29) (b:=2) (x:=.exit 0) (l':=[(4,.p 0 0),(5,.p 1 0)]) (objs':=[some tzO,some (tsZ (dropN s k 19).ts)]) (D:=Nat) (fun l:Nat=>([(1,.i .i64 k),(4,.p 0 0),(5,.p 1 0),(18,.i .i64 (ofNat l))],[some tzO,some (tsZ (dropN s k l).ts)])) (fun l=>19-l) (fun l=>l<=19) (fun l hl=>?_) 0 (Nat.zero_le _)
 · rw [dropN_0] at key;exact key
 refine ⟨Nat.le_refl _,?_⟩
 by_cases e:l=19
 · subst e
   exact ⟨_,_,(dropE_vc _ k _).mpr (.inr ⟨[0,1],[],_,_,rfl,by simp,st_k [0,1] (by kernel_rfl)⟩)⟩
 · have h1:decide (ofNat l<19)=true:=by simp<;>omega
   have hlt:l<19:=by omega
   have hr:=mayB_ok (va_row h hlt)
   have hf:=freeR_ok hr k
   have hlay:=lay_con (dropN s k l).ts (freeR (s.row l) k) hf.1 hf.2 l hlt
   rw [<-set_ts,<-dropN_set] at hlay
   have hfree:=freed_con (s.row l) k hk (by have:=hr.len;omega)
   have hrow:=rowOfZ_con (dropN s k l).ts l hlt
   have e2:rwN ((dropN s k l).ts.h l) ((dropN s k l).ts.n l) ((dropN s k l).ts.A l) ((dropN s k l).ts.M l) ((dropN s k l).ts.W l)=rwV (s.row l):=by
    show rwV ((dropN s k l).row l)= _
    rw [dropN_row]
   refine ⟨_,_,(dropR_vc (dropN s k l).ts (dropN s k (l+1)).ts (freeR (s.row l) k).h (freeR (s.row l) k).q.length (qA (freeR (s.row l) k).q) (qM (freeR (s.row l) k).q) (qW (freeR (s.row l) k).q) k l h1 _).mpr ⟨h1,hrow,by rw [e2];exact hfree,hlay,⟨by simp<;>omega,by simp<;>omega⟩,.inl ⟨l+1,[0,1],[],_,_,by omega,by show 19-(l+1)<19-l;omega,rfl,st_k [0,1] (by kernel_rfl)⟩⟩⟩
theorem drop_con (s:LS) (ok:s.ok) (k:Int):Con PG 182 [lsV s,.i .i64 k] [] (lsV (dropS s k)) []:=by
 unfold dropS
 cases h1:isServerB k with
 | false=>exact con_pureX (dropN0_vc s.ts isServerB k h1 _) (tsV_below _) (by repeat' first | exact trivial | exact isServer_con _ | exact copied_con _ ok | exact rfl | (simp only [h1,Bool.not_true,Bool.not_false];done) | apply And.intro)
 | true=>
   cases h2:vaS s with
   | false=>exact con_pureX (dropN1_vc s.ts isServerB (vaS s) k h1 h2 _) (tsV_below _) (by repeat' first | exact trivial | exact isServer_con _ | exact copied_con _ ok | exact valid_con s ok | exact rfl | (simp only [h1,h2,Bool.not_true,Bool.not_false];done) | apply And.intro)
   | true=>
     have hk:0<=k/\k<3:=by simpa [isServerB] using h1
     exact con_pureX (dropL_vc s.ts (dropN s k 19).ts isServerB (vaS s) k h1 h2 _) (tsV_below _) (by repeat' first | exact trivial | exact isServer_con _ | exact copied_con _ ok | exact valid_con s ok | exact drop_lp s k hk h2 | exact rfl | (simp only [h1,h2,Bool.not_true,Bool.not_false];done) | apply And.intro)
theorem hldN_s (s:LS) (k:Int) (l:Nat):hldN s k (l+1)=hldN s k l ++ (if hx (s.row l).h k=0 then [] else [⟨l,hx (s.row l).h k,wantR (s.row l) k⟩]):=rfl
theorem hldN_len (s:LS) (k:Int):∀l,(hldN s k l).length<=l
 | 0=>Nat.le_refl _
 | l+1=>by
   have:=hldN_len s k l
   rw [hldN_s,List.length_append]
   split<;>simp<;>omega
theorem holds_lp (s:LS) (k:Int) (hk:0<=k/\k<3):LDoes PG (loopAt PG 142 0) 39 1 (mkT [(1,.i .i64 k),(2,.p 0 0),(5,.l0),(17,.i .i64 0)]) [some (tsO s.ts)] (.exit 0) (mkT [(5,.lr 1 3 0 (hldN s k 19).length false)]) [some (tsO s.ts),some (.rows 80 3 (hldN s k 19).length (qF (qA (hldN s k 19)) (qM (hldN s k 19)) (qW (hldN s k 19))))]:=by
 have key:=loop_indE (P:=PG) (c:=loopAt PG 142 0) (n:=39) (b:=1) (x:=.exit 0) (l':=[(5,.lr 1 3 0 (hldN s k 19).length false)]) (objs':=[some (tsO s.ts),some (.rows 80 3 (hldN s k 19).length (qF (qA (hldN s k 19)) (qM (hldN s k 19)) (qW (hldN s k 19))))]) (D:=Nat)
  (fun l:Nat=>([(1,.i .i64 k),(2,.p 0 0),(5,.lr 1 3 0 (hldN s k l).length false),(17,.i .i64 (ofNat l))],[some (tsO s.ts),some (.rows 80 3 (hldN s k l).length (qF (qA (hldN s k l)) (qM (hldN s k l)) (qW (hldN s k l))))])) (fun l=>19-l) (fun l=>l<=19) (fun l hl=>?_) 0 (Nat.zero_le _)
 · refine key.weak ⟨rfl,.inl rfl,rfl,.inl rfl,rfl,.inr ⟨rfl,.inl ⟨1,3,0,false,rfl⟩⟩,rfl,.inl rfl,trivial⟩ ⟨.refl _,?_⟩
   intro o ho
   simp at ho;subst ho
   exact ⟨_,rfl,rfl⟩
 refine ⟨by simp,?_⟩
 by_cases e:l=19
 · subst e
   exact ⟨_,_,(holdsE_vc _ k _ _ _).mpr (.inr ⟨[0,1],[],_,_,_,rfl,by simp,st_k [0,1] (by kernel_rfl),OEqL.refl _⟩)⟩
 · have h1:decide (ofNat l<19)=true:=by simp<;>omega
   have hlt:l<19:=by omega
   have hlen:=hldN_len s k l
   by_cases hz:hx (s.row l).h k=0
   · have h2:(!decide (List.getD [TS.h s.ts l 0,TS.h s.ts l 1,TS.h s.ts l 2] (Int.toNat k) 0=0))=false:=by
      have:List.getD [TS.h s.ts l 0,TS.h s.ts l 1,TS.h s.ts l 2] (Int.toNat k) 0=hx (s.row l).h k:=rfl
      rw [this,hz];rfl
     have e2:hldN s k (l+1)=hldN s k l:=by rw [hldN_s,if_pos hz,List.append_nil]
     refine ⟨_,_,(holdsR0_vc s.ts k l _ _ h1 h2 _).mpr ⟨h1,rowOf_con _ _ hlt,trivial,hk,by omega,h2,⟨by simp<;>omega,by simp<;>omega⟩,.inl ⟨l+1,[0,1],[],_,_,_,by omega,by show 19-(l+1)<19-l;omega,rfl,?_,OEqL.refl _⟩⟩⟩
     dsimp only
     rw [e2]
     exact st_k [0,1] (by kernel_rfl)
   · have h2:(!decide (List.getD [TS.h s.ts l 0,TS.h s.ts l 1,TS.h s.ts l 2] (Int.toNat k) 0=0))=true:=by
      have:List.getD [TS.h s.ts l 0,TS.h s.ts l 1,TS.h s.ts l 2] (Int.toNat k) 0=hx (s.row l).h k:=rfl
      rw [this];simp [hz]
     have e2:hldN s k (l+1)=hldN s k l ++ [⟨l,hx (s.row l).h k,wantR (s.row l) k⟩]:=by rw [hldN_s,if_neg hz]
     have e3:(hldN s k (l+1)).length=addN (hldN s k l).length 1:=by rw [e2,addN_eq];simp
     have hw:=wanted_con (s.row l).h (qA (s.row l).q) (qM (s.row l).q) (qW (s.row l).q) (s.row l).q.length k (by simp [isServerB];exact hk)
     refine ⟨_,_,(holdsR1_vc s.ts (wantR (s.row l) k) k l _ _ h1 h2 _).mpr ⟨h1,rowOf_con _ _ hlt,trivial,hk,by omega,h2,hw,⟨by omega,trivial,by omega,by omega⟩,⟨by simp<;>omega,by simp<;>omega⟩,.inl ⟨l+1,[0,4],[],_,_,[some (tsO s.ts),some (.rows 80 3 (addN (hldN s k l).length 1) (appZ (hldN s k l).length (qF (qA (hldN s k l)) (qM (hldN s k l)) (qW (hldN s k l))) (listF 3 [.i .i64 (ofNat l),.i .i64 (hx (s.row l).h k),.i .i64 (wantR (s.row l) k)] 1)))],by omega,by show 19-(l+1)<19-l;omega,rfl,?_,?_⟩⟩⟩
     · dsimp only
       rw [e3]
       exact st_k [0,4] (by kernel_rfl)
     · dsimp only
       rw [e3]
       refine ⟨.refl _,.rows ?_,trivial⟩
       intro i j hi hj
       rw [addN_eq] at hi
       rw [e2,apq3 hj (fun _ _=>rfl) (fun j hj=>listF_q (ofNat l) (hx (s.row l).h k) (wantR (s.row l) k) _ j hj)]
       by_cases c:i<(hldN s k l).length
       · rw [if_pos c]
         apply qF_eq
         simp [List.getD_eq_getElem?_getD,List.getElem?_append,c]
       · obtain rfl:i=(hldN s k l).length:=by omega
         rw [if_neg c]
         refine (qF_one ⟨ofNat l,hx (s.row l).h k,wantR (s.row l) k⟩ j).trans (qF_eq ?_)
         simp [List.getD_eq_getElem?_getD,List.getElem?_append]
theorem holds_con (s:LS) (ok:s.ok) (k:Int):Con PG 142 [lsV s,.i .i64 k] [] (svQ (hldS s k)) []:=by
 unfold hldS
 cases h1:isServerB k with
 | false=>
   have h0:Con PG 142 [lsV s,.i .i64 k] [] .l0 []:=con_pureX (holdsN0_vc s.ts isServerB k h1 _) rfl (by repeat' first | exact trivial | exact isServer_con _ | exact rfl | (simp only [h1,Bool.not_true,Bool.not_false];done) | apply And.intro)
   exact h0.post (VW.nil _ _) trivial
 | true=>
   cases h2:vaS s with
   | false=>
     have h0:Con PG 142 [lsV s,.i .i64 k] [] .l0 []:=con_pureX (holdsN1_vc s.ts isServerB (vaS s) k h1 h2 _) rfl (by repeat' first | exact trivial | exact isServer_con _ | exact valid_con s ok | exact rfl | (simp only [h1,h2,Bool.not_true,Bool.not_false];done) | apply And.intro)
     exact h0.post (VW.nil _ _) trivial
   | true=>
     have hk:0<=k/\k<3:=by simpa [isServerB] using h1
     have hlp:=holds_lp s k hk
     simp only [Bool.and_self,cond_true]
     generalize hldN s k 19=L at hlp⊢
     have h0:Con PG 142 [lsV s,.i .i64 k] [] (.sv 3 L.length (shiftF 0 (qF (qA L) (qM L) (qW L)))) []:=by
      refine con_runX [1] [] (holdsL_vc s.ts isServerB (vaS s) (qF (qA L) (qM L) (qW L)) L.length k h1 h2 _) ?_
      refine ⟨isServer_con _,trivial,by simp only [h1,Bool.not_true,Bool.not_false],by simp only [h1,Bool.not_true,Bool.not_false],valid_con s ok,by simp only [h1,Bool.not_true,Bool.not_false],trivial,by simp only [h1,Bool.not_true],by simp only [h2,Bool.not_true],hlp,_,_,rfl,?_⟩
      exact ret_fz [1] ((3=3/\0+L.length<=L.length)/\True) (by kernel_rfl) (by kernel_rfl) ⟨⟨rfl,by omega⟩,trivial⟩ (by kernel_rfl) rfl (by kernel_rfl) (by kernel_rfl) rfl trivial
     refine h0.post (VW.sv fun i j hi hj=>?_) trivial
     rw [shiftF_eq,Nat.zero_add]
end Go.Proofs.Lk
/- Rows that may be, and what is done to them. -/
namespace Go.Proofs.Lk
open Go Go.Sim Go.Proofs
def mw (h:Nat->Int) (x:HQ):Bool:=mayWaitB h x.a x.m x.w
structure RowW (r:Rw):Prop where
 hm:hmB r.h=true
 wait:∀x∈r.q,mw r.h x=true
 once:r.q.Pairwise (fun x y=>x.a≠y.a)
def Stk (r:Rw):Prop:=∀x q,r.q=x :: q->canB r.h x.a x.m=false
theorem RowOk.w {r:Rw} (h:RowOk r):RowW r/\Stk r:=by
 refine ⟨⟨h.hm,fun x hx=>?_,?_⟩,h.stuck⟩
 · obtain ⟨i,hi,rfl⟩:=List.getElem_of_mem hx
   exact h.wait i hi
 · rw [List.pairwise_iff_getElem]
   intro i j hi hj hij e
   have:=h.once i j hi hj e
   omega
theorem once_idx {q:List HQ} (h:q.Pairwise (fun x y=>x.a≠y.a)) {i j:Nat} (hi:i<q.length) (hj:j<q.length) (e:q[i].a=q[j].a):i=j:=by
 rw [List.pairwise_iff_getElem] at h
 rcases Nat.lt_trichotomy i j with c | c | c
 · exact absurd e (h i j hi hj c)
 · exact c
 · exact absurd e.symm (h j i hj hi c)
theorem fi_self {q:List HQ} (h:q.Pairwise (fun x y=>x.a≠y.a)) {i:Nat} (hi:i<q.length):fi q.length (qA q) (qA q i)=i:=by
 have hle:=fi_le q.length (qA q) (qA q i)
 rcases Nat.lt_trichotomy (fi q.length (qA q) (qA q i)) i with c | c | c
 · have:=fi_at (n:=q.length) (A:=qA q) (k:=qA q i) (by omega)
   have c':fi q.length (qA q) (qA q i)<q.length:=by omega
   rw [qA_lt c'] at this
   exact once_idx h c' hi (this.trans (qA_lt hi))
 · exact c
 · exact absurd rfl (fi_far c)
theorem qmB_of (h:Nat->Int) (n:Nat) (A M W:Nat->Int):∀m i,(∀j,i<=j->j<i+m->mayWaitB h (A j) (M j) (W j)=true/\fi n A (A j)=j)->qmB h n A M W m i=true
 | 0,i,_=>rfl
 | m+1,i,q=>by
   rw [qmB_s]
   simp only [Bool.and_eq_true,decide_eq_true_eq]
   exact ⟨(q i (Nat.le_refl _) (by omega)).1,(q i (Nat.le_refl _) (by omega)).2,qmB_of h n A M W m (i+1) fun j a b=>q j (by omega) (by omega)⟩
theorem qM_lt {q:List HQ} {i:Nat} (h:i<q.length):qM q i=q[i].m:=by unfold qM;rw [List.getD_eq_getElem?_getD,List.getElem?_eq_getElem h];rfl
theorem qW_lt {q:List HQ} {i:Nat} (h:i<q.length):qW q i=q[i].w:=by unfold qW;rw [List.getD_eq_getElem?_getD,List.getElem?_eq_getElem h];rfl
theorem mayB_of {r:Rw} (h:RowW r) (s:Stk r):mayB r=true:=by
 unfold mayB mayBeB
 simp only [Bool.and_eq_true,Bool.not_eq_true']
 refine ⟨h.hm,qmB_of _ _ _ _ _ _ _ fun j _ hj=>?_,?_⟩
 · have hj':j<r.q.length:=by omega
   refine ⟨?_,fi_self h.once hj'⟩
   rw [qA_lt hj',qM_lt hj',qW_lt hj']
   exact h.wait _ (List.getElem_mem hj')
 · cases e:r.q with
   | nil=>rfl
   | cons x q=>
     have:=s x q e
     simpa [fcB,qA,qM] using this
def rmQ (k:Int):List HQ->List HQ
 | []=>[]
 | x :: q=>if x.a=k then q else x :: rmQ k q
def inQ (k m:Int):List HQ->List HQ
 | []=>[⟨k,m,0⟩]
 | x :: q=>if x.a=k then ⟨k,m,0⟩ :: q else x :: inQ k m q
def hqQ (k d:Int):List HQ->Int
 | []=>d
 | x :: q=>if x.a=k then x.m else hqQ k d q
theorem fiN_shift (x:HQ) (q:List HQ) (k:Int):∀m i,fiN (qA (x :: q)) k m (i+1)=fiN (qA q) k m i+1
 | 0,i=>rfl
 | m+1,i=>by
   have e:qA (x :: q) (i+1)=qA q i:=rfl
   unfold fiN
   rw [e,fiN_shift x q k m (i+1)]
   split<;>rfl
theorem fi_cons (x:HQ) (q:List HQ) (k:Int):fi (x :: q).length (qA (x :: q)) k=if x.a=k then 0 else fi q.length (qA q) k+1:=by
 show fiN (qA (x :: q)) k (q.length+1) 0= _
 have e:qA (x :: q) 0=x.a:=rfl
 unfold fiN
 rw [e,fiN_shift]
 rfl
theorem ti_cons (x:HQ) (q:List HQ) (k:Int):ti (x :: q).length (qA (x :: q)) k=if x.a=k then 1 else ti q.length (qA q) k+1:=by
 unfold ti
 rw [fi_cons]
 by_cases c:x.a=k
 · simp [c]
 · simp only [if_neg c,List.length_cons]
   by_cases d:fi q.length (qA q) k<q.length
   · rw [if_pos (by omega),if_pos d]
   · rw [if_neg (by omega),if_neg d]
theorem rm_eq (k:Int):∀q:List HQ,q.take (fi q.length (qA q) k) ++ q.drop (ti q.length (qA q) k)=rmQ k q
 | []=>rfl
 | x :: q=>by
   rw [fi_cons,ti_cons]
   unfold rmQ
   by_cases c:x.a=k
   · simp [c]
   · simp only [if_neg c]
     rw [List.take_succ_cons,List.drop_succ_cons,List.cons_append,rm_eq k q]
theorem in_eq (k m:Int):∀q:List HQ,q.take (fi q.length (qA q) k) ++ ⟨k,m,0⟩ :: q.drop (ti q.length (qA q) k)=inQ k m q
 | []=>rfl
 | x :: q=>by
   rw [fi_cons,ti_cons]
   unfold inQ
   by_cases c:x.a=k
   · simp [c]
   · simp only [if_neg c]
     rw [List.take_succ_cons,List.drop_succ_cons,List.cons_append,in_eq k m q]
theorem hq_eq (k d:Int):∀q:List HQ,(if fi q.length (qA q) k<q.length then qM q (fi q.length (qA q) k) else d)=hqQ k d q
 | []=>rfl
 | x :: q=>by
   rw [fi_cons]
   unfold hqQ
   by_cases c:x.a=k
   · simp only [if_pos c,List.length_cons]
     rw [if_pos (by omega)];rfl
   · simp only [if_neg c,List.length_cons]
     rw [<-hq_eq k d q]
     by_cases e:fi q.length (qA q) k<q.length
     · rw [if_pos (by omega),if_pos e];rfl
     · rw [if_neg (by omega),if_neg e]
theorem freeR_eq (r:Rw) (k:Int):freeR r k=⟨setH r.h k 0,rmQ k r.q⟩:=by
 unfold freeR fr to
 rw [rm_eq]
theorem askR_eq (r:Rw) (k m:Int):askR r k m=⟨r.h,if hqQ k (hx r.h k) r.q<m then inQ k m r.q else r.q⟩:=by
 unfold askR hasR fr to
 rw [hq_eq,in_eq]
theorem rmQ_sub (k:Int):∀q:List HQ,(rmQ k q).Sublist q
 | []=>.slnil
 | x :: q=>by
   unfold rmQ
   split
   · exact List.sublist_cons_self x q
   · exact (rmQ_sub k q).cons_cons x
theorem rmQ_ne (k:Int):∀q:List HQ,q.Pairwise (fun x y=>x.a≠y.a)->∀y∈rmQ k q,y.a≠k
 | [],_,y,hy=>by cases hy
 | x :: q,h,y,hy=>by
   rw [List.pairwise_cons] at h
   unfold rmQ at hy
   split at hy
   · rename_i c
     intro e
     exact h.1 y hy (by rw [c,e])
   · rename_i c
     rcases List.mem_cons.1 hy with rfl | hy
     · exact c
     · exact rmQ_ne k q h.2 y hy
theorem inQ_mem (k m:Int):∀q:List HQ,q.Pairwise (fun x y=>x.a≠y.a)->∀y∈inQ k m q,y=⟨k,m,0⟩\/(y∈q/\y.a≠k)
 | [],_,y,hy=>by
   unfold inQ at hy
   rcases List.mem_cons.1 hy with rfl | hy
   · exact .inl rfl
   · cases hy
 | x :: q,h,y,hy=>by
   rw [List.pairwise_cons] at h
   unfold inQ at hy
   split at hy
   · rename_i c
     rcases List.mem_cons.1 hy with rfl | hy
     · exact .inl rfl
     · exact .inr ⟨List.mem_cons_of_mem _ hy,fun e=>h.1 y hy (by rw [c,e])⟩
   · rename_i c
     rcases List.mem_cons.1 hy with rfl | hy
     · exact .inr ⟨List.mem_cons_self,c⟩
     · rcases inQ_mem k m q h.2 y hy with e | ⟨e1,e2⟩
       · exact .inl e
       · exact .inr ⟨List.mem_cons_of_mem _ e1,e2⟩
theorem inQ_once (k m:Int):∀q:List HQ,q.Pairwise (fun x y=>x.a≠y.a)->(inQ k m q).Pairwise (fun x y=>x.a≠y.a)
 | [],_=>by unfold inQ;simp
 | x :: q,h=>by
   have h0:=h
   rw [List.pairwise_cons] at h
   unfold inQ
   split
   · rename_i c
     rw [List.pairwise_cons]
     exact ⟨fun y hy=>by rw [<-c];exact h.1 y hy,h.2⟩
   · rename_i c
     rw [List.pairwise_cons]
     refine ⟨fun y hy=>?_,inQ_once k m q h.2⟩
     rcases inQ_mem k m q h.2 y hy with rfl | ⟨e1,e2⟩
     · exact c
     · exact h.1 y e1
def hm3 (a b c:Int):Bool:=(isModeB a && (isModeB b && goesB b a)) && (isModeB c && (goesB c a && goesB c b))
theorem hm3_eq (h:Nat->Int):hmB h=hm3 (h 0) (h 1) (h 2):=rfl
theorem three {a:Int} (h:0<=a/\a<3):a=0\/a=1\/a=2:=by omega
theorem hx_set (h:Nat->Int) (m:Int) {a b:Int} (ha:0<=a/\a<3) (hb:0<=b/\b<3):hx (setH h a m) b=if b=a then m else hx h b:=by
 rcases three ha with rfl | rfl | rfl<;>rcases three hb with rfl | rfl | rfl<;>rfl
theorem hm_set (h:Nat->Int) {a m:Int} (ha:0<=a/\a<3) (hm:m=1\/m=2) (c:canB h a m=true) (H:hmB h=true):hmB (setH h a m)=true:=by
 rw [hm3_eq] at H
 rcases three ha with rfl | rfl | rfl
 · show hm3 m (h 1) (h 2)=true
   simp only [hm3,canB,isModeB,isWishB,goesB,Bool.and_eq_true,Bool.or_eq_true,decide_eq_true_eq] at H c⊢
   omega
 · show hm3 (h 0) m (h 2)=true
   simp only [hm3,canB,isModeB,isWishB,goesB,Bool.and_eq_true,Bool.or_eq_true,decide_eq_true_eq] at H c⊢
   omega
 · show hm3 (h 0) (h 1) m=true
   simp only [hm3,canB,isModeB,isWishB,goesB,Bool.and_eq_true,Bool.or_eq_true,decide_eq_true_eq] at H c⊢
   omega
theorem hm_zero (h:Nat->Int) {a:Int} (ha:0<=a/\a<3) (H:hmB h=true):hmB (setH h a 0)=true:=by
 rw [hm3_eq] at H
 rcases three ha with rfl | rfl | rfl
 · show hm3 0 (h 1) (h 2)=true
   simp only [hm3,isModeB,isWishB,goesB,true_or,or_true,true_and,and_true,Bool.and_eq_true,Bool.or_eq_true,decide_eq_true_eq] at H⊢
   omega
 · show hm3 (h 0) 0 (h 2)=true
   simp only [hm3,isModeB,isWishB,goesB,true_or,or_true,true_and,and_true,Bool.and_eq_true,Bool.or_eq_true,decide_eq_true_eq] at H⊢
   omega
 · show hm3 (h 0) (h 1) 0=true
   simp only [hm3,isModeB,isWishB,goesB,true_or,or_true,true_and,and_true,Bool.and_eq_true,Bool.or_eq_true,decide_eq_true_eq] at H⊢
   omega
theorem mw_iff {h:Nat->Int} {x:HQ}:mw h x=true↔(0<=x.a/\x.a<3)/\(x.m=1\/x.m=2)/\hx h x.a<x.m/\x.w=0:=by
 unfold mw mayWaitB isServerB isWishB
 simp only [Bool.and_eq_true,Bool.or_eq_true,decide_eq_true_eq]
theorem mw_set {h:Nat->Int} {x:HQ} {a:Int} (m:Int) (ha:0<=a/\a<3) (hne:x.a≠a) (hw:mw h x=true):mw (setH h a m) x=true:=by
 rw [mw_iff] at hw⊢
 rw [hx_set h m ha hw.1,if_neg hne]
 exact hw
theorem goL_cons (h:Nat->Int) (x:HQ) (q:List HQ):goL h (x :: q)=bif canB h x.a x.m then goL (setH h x.a x.m) q else ⟨h,x :: q⟩:=rfl
theorem goL_ok:∀(q:List HQ) (h:Nat->Int),RowW ⟨h,q⟩->RowW (goL h q)/\Stk (goL h q)
 | [],h,w=>⟨w,fun x q e=>by cases e⟩
 | x :: q,h,w=>by
   rw [goL_cons]
   cases c:canB h x.a x.m with
   | false=>
     refine ⟨w,fun y q' e=>?_⟩
     simp only [cond_false,List.cons.injEq] at e
     obtain ⟨rfl,rfl⟩:=e
     exact c
   | true=>
     have hx0:=mw_iff.1 (w.wait x List.mem_cons_self)
     have ho:=List.pairwise_cons.1 w.once
     refine goL_ok q (setH h x.a x.m) ⟨hm_set h hx0.1 hx0.2.1 c w.hm,fun y hy=>?_,ho.2⟩
     exact mw_set x.m hx0.1 (fun e=>ho.1 y hy e.symm) (w.wait y (List.mem_cons_of_mem _ hy))
theorem goL_spec:∀(q:List HQ) (h:Nat->Int),RowW ⟨h,q⟩->∃p,q=p ++ (goL h q).q/\(∀x∈p,hx (goL h q).h x.a=x.m)/\(∀b,0<=b/\b<3->(∀x∈p,x.a≠b)->hx (goL h q).h b=hx h b)
 | [],h,w=>⟨[],rfl,(by simp),fun _ _ _=>rfl⟩
 | x :: q,h,w=>by
   rw [goL_cons]
   cases c:canB h x.a x.m with
   | false=>exact ⟨[],rfl,(by simp),fun _ _ _=>rfl⟩
   | true=>
     have hx0:=mw_iff.1 (w.wait x List.mem_cons_self)
     have ho:=List.pairwise_cons.1 w.once
     obtain ⟨p,p1,p2,p3⟩:=goL_spec q (setH h x.a x.m) ⟨hm_set h hx0.1 hx0.2.1 c w.hm,fun y hy=>mw_set x.m hx0.1 (fun e=>ho.1 y hy e.symm) (w.wait y (List.mem_cons_of_mem _ hy)),ho.2⟩
     simp only [cond_true]
     refine ⟨x :: p,by rw [List.cons_append,<-p1],fun y hy=>?_,fun b hb hne=>?_⟩
     · rcases List.mem_cons.1 hy with rfl | hy
       · rw [p3 _ hx0.1 fun z hz=>fun e=>ho.1 z (by rw [p1];exact List.mem_append_left _ hz) e.symm,hx_set _ _ hx0.1 hx0.1,if_pos rfl]
       · exact p2 y hy
     · rw [p3 b hb fun z hz=>hne z (List.mem_cons_of_mem _ hz),hx_set _ _ hx0.1 hb,if_neg fun e=>hne x List.mem_cons_self e.symm]
theorem goL_mono {q:List HQ} {h:Nat->Int} (w:RowW ⟨h,q⟩) {b:Int} (hb:0<=b/\b<3):hx h b<=hx (goL h q).h b:=by
 obtain ⟨p,p1,p2,p3⟩:=goL_spec q h w
 by_cases c:∃x∈p,x.a=b
 · obtain ⟨x,x1,rfl⟩:=c
   rw [p2 x x1]
   have h9:hx h x.a<x.m:=(mw_iff.1 (w.wait x (by show x∈q;rw [p1];exact List.mem_append_left _ x1))).2.2.1
   omega
 · rw [p3 b hb fun x x1 e=>c ⟨x,x1,e⟩]
   exact Int.le_refl _
theorem free_w {r:Rw} (w:RowW r) {k:Int} (hk:0<=k/\k<3):RowW (freeR r k):=by
 rw [freeR_eq]
 exact ⟨hm_zero _ hk w.hm,fun x hx=>mw_set 0 hk (rmQ_ne k r.q w.once x hx) (w.wait x ((rmQ_sub k r.q).subset hx)),w.once.sublist (rmQ_sub k r.q)⟩
theorem hqQ_ge {h:Nat->Int} {k:Int} (hk:0<=k/\k<3):∀q:List HQ,(∀x∈q,mw h x=true)->hx h k<=hqQ k (hx h k) q
 | [],_=>Int.le_refl _
 | x :: q,w=>by
   unfold hqQ
   split
   · rename_i c
     have:=(mw_iff.1 (w x List.mem_cons_self)).2.2.1
     rw [c] at this
     omega
   · exact hqQ_ge hk q fun y hy=>w y (List.mem_cons_of_mem _ hy)
theorem ask_w {r:Rw} (w:RowW r) {k m:Int} (hk:0<=k/\k<3) (hm:m=1\/m=2):RowW (askR r k m):=by
 rw [askR_eq]
 split
 · rename_i c
   refine ⟨w.hm,fun x hm9=>?_,inQ_once k m r.q w.once⟩
   rcases inQ_mem k m r.q w.once x hm9 with rfl | ⟨e,_⟩
   · rw [mw_iff]
     have:=hqQ_ge hk r.q w.wait
     exact ⟨hk,hm,by show hx r.h k<m;omega,rfl⟩
   · exact w.wait x e
 · exact ⟨w.hm,w.wait,w.once⟩
theorem onR_may {r:Rw} (w:RowW r):mayB (onR r)=true:=by
 obtain ⟨a,b⟩:=goL_ok r.q r.h w
 exact mayB_of a b
theorem vaS_of {s:LS} (h:∀l,l<19->mayB (s.row l)=true):vaS s=true:=by
 have key:∀m l,l+m<=19->vaN s m l=true:=by
  intro m
  induction m with
  | zero=>intro l _;rfl
  | succ m ih=>
    intro l hl
    rw [vaN_s,Bool.and_eq_true]
    exact ⟨h l (by omega),ih (l+1) (by omega)⟩
 exact key 19 0 (by omega)
theorem okA_iff {s:LS} {l k m:Int}:okA s l k m=true↔(0<=l/\l<19)/\(0<=k/\k<3)/\(m=1\/m=2)/\vaS s=true:=by
 unfold okA isLockB isServerB isWishB
 simp only [Bool.and_eq_true,Bool.or_eq_true,decide_eq_true_eq]
theorem okF_iff {s:LS} {l k:Int}:okF s l k=true↔(0<=l/\l<19)/\(0<=k/\k<3)/\vaS s=true:=by
 unfold okF isLockB isServerB
 simp only [Bool.and_eq_true,decide_eq_true_eq]
theorem set_va {s:LS} (h:vaS s=true) (l:Nat) {r:Rw} (hr:mayB r=true):vaS (s.set l r)=true:=by
 refine vaS_of fun j hj=>?_
 unfold LS.set
 cases hb:Nat.beq j l with
 | true=>simp only [hb,cond_true];exact hr
 | false=>simp only [hb,cond_false];exact va_row h hj
theorem zS_va:vaS zS=true:=by kernel_rfl
theorem askS_va {s:LS} (h:vaS s=true) (l k m:Int):vaS (askS s l k m)=true:=by
 unfold askS
 cases c:okA s l k m with
 | false=>exact zS_va
 | true=>
   obtain ⟨c1,c2,c3,_⟩:=okA_iff.1 c
   exact set_va h _ (onR_may (ask_w (mayB_ok (va_row h (l:=l.toNat) (by omega))).w.1 c2 c3))
theorem freeS_va {s:LS} (h:vaS s=true) (l k:Int):vaS (freeS s l k)=true:=by
 unfold freeS
 cases c:okF s l k with
 | false=>exact zS_va
 | true=>
   obtain ⟨c1,c2,_⟩:=okF_iff.1 c
   exact set_va h _ (onR_may (free_w (mayB_ok (va_row h (l:=l.toNat) (by omega))).w.1 c2))
theorem dropS_va {s:LS} (h:vaS s=true) (k:Int):vaS (dropS s k)=true:=by
 unfold dropS
 cases c:isServerB k with
 | false=>exact h
 | true=>
   rw [h]
   simp only [Bool.and_self,cond_true]
   have hk:0<=k/\k<3:=by simpa [isServerB] using c
   refine vaS_of fun j hj=>?_
   have e:(dropN s k 19).row j=onR (freeR (s.row j) k):=by
    unfold dropN
    have:Nat.blt j 19=true:=by rw [Nat.blt_eq];exact hj
    simp only [this,cond_true]
   rw [e]
   exact onR_may (free_w (mayB_ok (va_row h hj)).w.1 hk)
theorem dropS_row {s:LS} (v:vaS s=true) {k:Int} (hk:0<=k/\k<3) {l:Nat} (hl:l<19):(dropS s k).row l=onR (freeR (s.row l) k):=by
 have c:isServerB k=true:=by simp [isServerB];exact hk
 unfold dropS
 rw [c,v]
 simp only [Bool.and_self,cond_true]
 unfold dropN
 have:Nat.blt l 19=true:=by rw [Nat.blt_eq];exact hl
 simp only [this,cond_true]
theorem c50R_vc (n m i:Nat) (A M W:Nat->Int) (F:Nat->Nat->CV) (h1:decide (ofNat i<ofNat n)=true) (K:Res->Orc->Prop):runK PG 1000000 (.code (loopAt PG 82 0) 19 (mkT [(0,svN n A M W),(3,.lr 0 3 0 m false),(4,.i .i64 (ofNat i))]) (mkH [some (.rows 80 3 m F)])) (.t .z) K=((fun (q0:AV)=>(decide (ofNat i<ofNat n)=true/\(0<=ofNat i/\ofNat i<↑n)/\True/\(0+m<=m/\True/\m+1<=140737488355328/\(3*(m+1)+1536)*24<=562949953421312)/\rg (ofNat i+1)/\K (.st .nrm (zz1 q0 (zz0 (zz1 (.lr 2 3 0 (addN m 1) false) (zz1 (inv n) (zzl (.agg [.i .i64 (A i),.i .i64 (M i),.i .i64 (W i)])) .e) (zzl (.lr 0 3 0 m false))) (zz1 (inv i) (zz1 (inv i) (zzl (.lr 2 3 0 (addN m 1) false)) .e) (zzn i))) (zz0 (zz1 (.i .i64 (ofNat i+1)) (zz1 (.b (decide (ofNat i<ofNat n))) (zzl (.l 1 0 1 1 3 true)) .e) (zzl q0)) (zz1 q0 (zzl (.i .i64 (ofNat i+1))) (zzl (.pv 3 (qF A M W i)))))) ⟨zz0 (zzl (AObj.cells 80 3 [] (zz1 (.i .i64 (A i)) (zzl (.i .i64 (M i))) (zzl (.i .i64 (W i)))))) (zzl (AObj.rows 80 3 (addN m 1) (appZ m F (listF 3 [CV.i .i64 (A i),CV.i .i64 (M i),CV.i .i64 (W i)] 1)))),3,[2,0,1]⟩) .z)) (.sv 3 n (qF A M W))):=by kernel_rfl
theorem c50E_vc (n m i:Nat) (A M W:Nat->Int) (F:Nat->Nat->CV) (h1:decide (ofNat i<ofNat n)=false) (K:Res->Orc->Prop):runK PG 1000000 (.code (loopAt PG 82 0) 19 (mkT [(0,svN n A M W),(3,.lr 0 3 0 m false),(4,.i .i64 (ofNat i))]) (mkH [some (.rows 80 3 m F)])) (.f .z) K=(decide (ofNat i<ofNat n)=false/\K (.st (.exit 0) (zz1 (.sv 3 n (qF A M W)) (zz0 (zz1 (.lr 0 3 0 m false) (zzn n) .e) (zzn i)) (zz0 (zz1 (inv i) (zzl (.b (decide (ofNat i<ofNat n)))) .e) (zzl (.sv 3 n (qF A M W))))) ⟨zzl (AObj.rows 80 3 m F),1,[]⟩) .z):=by kernel_rfl
theorem c50_vc (n:Nat) (A M W:Nat->Int) (K:Res->Orc->Prop):runK PG 1000000 (.call 82 [svN n A M W] (mkH [])) (.lop [] [0,3,4] 0 (.exit 0) [(3,.lr 0 3 0 n false)] [some (.rows 80 3 n (qF A M W))] .z) K=(LDoes PG (loopAt PG 82 0) 19 0 (mkT [(0,svN n A M W),(3,.l0),(4,.i .i64 0)]) [] (.exit 0) (mkT [(3,.lr 0 3 0 n false)]) [some (.rows 80 3 n (qF A M W))]/\K (.rv (.lr 0 3 0 n false) ⟨zzl (AObj.rows 80 3 n (qF A M W)),1,[0]⟩) .z):=by kernel_rfl
theorem c51R_vc (n m i:Nat) (f:Nat->Int) (F:Nat->Nat->CV) (h1:decide (ofNat i<ofNat n)=true) (K:Res->Orc->Prop):runK PG 1000000 (.code (loopAt PG 81 0) 19 (mkT [(0,isv n f),(3,.lr 0 1 0 m false),(4,.i .i64 (ofNat i))]) (mkH [some (.rows 3 1 m F)])) (.t .z) K=(decide (ofNat i<ofNat n)=true/\(0<=ofNat i/\ofNat i<↑n)/\True/\(0+m<=m/\True/\m+1<=140737488355328/\(3*(m+1)+1536)*8<=562949953421312)/\rg (ofNat i+1)/\K (.st .nrm (zz1 (.sv 1 n fun i x=>CV.i .i64 (f i)) (zz0 (zz1 (.lr 2 1 0 (addN m 1) false) (zz1 (inv n) (zzl (.i .i64 (f i))) .e) (zzl (.lr 0 1 0 m false))) (zz1 (inv i) (zz1 (inv i) (zzl (.lr 2 1 0 (addN m 1) false)) .e) (zzn i))) (zz0 (zz1 (.i .i64 (ofNat i+1)) (zz1 (.b (decide (ofNat i<ofNat n))) (zzl (.l 1 0 1 1 1 true)) .e) (zzl (.sv 1 n fun i x=>CV.i .i64 (f i)))) (zz1 (.sv 1 n fun i x=>CV.i .i64 (f i)) (zzl (.i .i64 (ofNat i+1))) (zzl (.pv 1 fun c=>CV.i .i64 (f i)))))) ⟨zz0 (zzl (AObj.cells 3 1 [] (zzl (.i .i64 (f i))))) (zzl (AObj.rows 3 1 (addN m 1) (appZ m F (listF 1 [CV.i .i64 (f i)] 1)))),3,[2,0,1]⟩) .z):=by kernel_rfl
theorem c51E_vc (n m i:Nat) (f:Nat->Int) (F:Nat->Nat->CV) (h1:decide (ofNat i<ofNat n)=false) (K:Res->Orc->Prop):runK PG 1000000 (.code (loopAt PG 81 0) 19 (mkT [(0,isv n f),(3,.lr 0 1 0 m false),(4,.i .i64 (ofNat i))]) (mkH [some (.rows 3 1 m F)])) (.f .z) K=(decide (ofNat i<ofNat n)=false/\K (.st (.exit 0) (zz1 (.sv 1 n fun i x=>CV.i .i64 (f i)) (zz0 (zz1 (.lr 0 1 0 m false) (zzn n) .e) (zzn i)) (zz0 (zz1 (inv i) (zzl (.b (decide (ofNat i<ofNat n)))) .e) (zzl (.sv 1 n fun i x=>CV.i .i64 (f i))))) ⟨zzl (AObj.rows 3 1 m F),1,[]⟩) .z):=by kernel_rfl
theorem c51_vc (n:Nat) (f:Nat->Int) (K:Res->Orc->Prop):runK PG 1000000 (.call 81 [isv n f] (mkH [])) (.lop [] [0,3,4] 0 (.exit 0) [(3,.lr 0 1 0 n false)] [some (.rows 3 1 n fun i x=>CV.i .i64 (f i))] .z) K=(LDoes PG (loopAt PG 81 0) 19 0 (mkT [(0,isv n f),(3,.l0),(4,.i .i64 0)]) [] (.exit 0) (mkT [(3,.lr 0 1 0 n false)]) [some (.rows 3 1 n fun i x=>CV.i .i64 (f i))]/\K (.rv (.lr 0 1 0 n false) ⟨zzl (AObj.rows 3 1 n fun i x=>CV.i .i64 (f i)),1,[0]⟩) .z):=by kernel_rfl
theorem c52R_vc (b:Mb) (m i:Nat) (F:Nat->Nat->CV) (h1:decide (ofNat i<ofNat (b.dn))=true) (K:Res->Orc->Prop):runK PG 1000000 (.code (loopAt PG 37 0) 39 (mkT [(1,.p 0 0),(2,.p 1 0),(3,.lr 2 3 0 m false),(4,.i .i64 (ofNat i))]) (mkH [some (vwO b),some vzO,some (.rows 82 3 m F)])) (.t .z) K=((fun (q0:AV)=>(True/\decide (ofNat i<ofNat (Mb.dn b))=true/\True/\(0<=ofNat i/\ofNat i<↑(Mb.dn b))/\True/\(0+m<=m/\True/\m+1<=140737488355328/\(3*(m+1)+1536)*24<=562949953421312)/\rg (ofNat i+1)/\K (.st .nrm (zz0 (zz1 (.p 0 0) (zz1 (.lr 4 3 0 (addN m 1) false) (zz0 (zz0 (zzn i) .e) (zzl q0)) (zz0 (zz0 (zzl (.lr 4 3 0 (addN m 1) false)) .e) (zzl (.i .i64 (ofNat i+1))))) (zz0 (zz0 (zz0 (zzl (.agg [.i .i64 (Mb.dA b i),.i .i64 (Mb.dM b i),.i .i64 (Mb.dW b i)])) .e) (zzl (.b (decide (ofNat i<ofNat (Mb.dn b)))))) (zz0 (zzn i) (zzl (.p 0 6))))) (zz1 (.p 1 0) (zz1 (.i .i64 (ofNat i+1)) (zz0 (zz0 (zzl (.pv 3 (qF (Mb.dA b) (Mb.dM b) (Mb.dW b) i))) .e) (zzn (Mb.dn b))) (zz0 .e (zzl (.lr 2 3 0 m false)))) (zz0 (zz0 (zz0 (zzl (.l 3 0 1 1 3 true)) .e) (zzn i)) (zz0 (zzl (.p 0 6)) (zzl q0))))) ⟨zz1 (AObj.cells 30 7 [] (zz1 (.i .i64 (Mb.x b 6)) (zz1 (.i .i64 (Mb.x b 7)) (zzl (.sv 1 (Mb.mn b) fun i x=>CV.i .i64 (Mb.mf b i))) (zzl (.sv 3 (Mb.hn b) (qF (Mb.hA b) (Mb.hM b) (Mb.hW b))))) (zz1 (.i .i64 (Mb.x b 8)) (zzl (.sv 1 (Mb.sn b) fun i x=>CV.i .i64 (Mb.sf b i))) (zzl q0)))) (zz1
 (AObj.cells 30 7 [.i .i64 0,.i .i64 0,.i .i64 0,.l0,.l0,.l0,.l0] .e) (zzl (AObj.cells 82 3 [] (zz1 (.i .i64 (Mb.dA b i)) (zzl (.i .i64 (Mb.dM b i))) (zzl (.i .i64 (Mb.dW b i)))))) .e) (zz0 (zzl (AObj.rows 82 3 (addN m 1) (appZ m F (listF 3 [CV.i .i64 (Mb.dA b i),CV.i .i64 (Mb.dM b i),CV.i .i64 (Mb.dW b i)] 1)))) .e),5,[4,2,3]⟩) .z)) (.sv 3 (Mb.dn b) (qF (Mb.dA b) (Mb.dM b) (Mb.dW b)))):=by kernel_rfl
theorem c52E_vc (b:Mb) (m i:Nat) (F:Nat->Nat->CV) (h1:decide (ofNat i<ofNat (b.dn))=false) (K:Res->Orc->Prop):runK PG 1000000 (.code (loopAt PG 37 0) 39 (mkT [(1,.p 0 0),(2,.p 1 0),(3,.lr 2 3 0 m false),(4,.i .i64 (ofNat i))]) (mkH [some (vwO b),some vzO,some (.rows 82 3 m F)])) (.f .z) K=((fun (q0:AV)=>(True/\decide (ofNat i<ofNat (Mb.dn b))=false/\K (.st (.exit 0) (zz0 (zz1 (.p 0 0) (zz1 (.lr 2 3 0 m false) (zz0 .e (zzl q0)) .e) (zz0 (zz0 .e (zzl (.b (decide (ofNat i<ofNat (Mb.dn b)))))) (zz0 (zzn i) .e))) (zz1 (.p 1 0) (zz1 (inv i) (zz0 .e (zzn (Mb.dn b))) .e) (zz0 .e (zz0 (zzl (.p 0 6)) .e)))) ⟨zz1 (AObj.cells 30 7 [] (zz1 (.i .i64 (Mb.x b 6)) (zz1 (.i .i64 (Mb.x b 7)) (zzl (.sv 1 (Mb.mn b) fun i x=>CV.i .i64 (Mb.mf b i))) (zzl (.sv 3 (Mb.hn b) (qF (Mb.hA b) (Mb.hM b) (Mb.hW b))))) (zz1 (.i .i64 (Mb.x b 8)) (zzl (.sv 1 (Mb.sn b) fun i x=>CV.i .i64 (Mb.sf b i))) (zzl q0)))) (zzl (AObj.cells 30 7 [.i .i64 0,.i .i64 0,.i .i64 0,.l0,.l0,.l0,.l0] .e)) (zzl (AObj.rows 82 3 m F)),3,[]⟩) .z)) (.sv 3 (Mb.dn b) (qF (Mb.dA b) (Mb.dM b) (Mb.dW b)))):=by kernel_rfl
theorem c52_vc (b:Mb) (K:Res->Orc->Prop):runK PG 1000000 (.call 37 [.agg (vwL b)] (mkH [])) (.cal [] (isv (Mb.mn b) (Mb.mf b)) [] (.cal [] (isv (Mb.sn b) (Mb.sf b)) [] (.cal [] (svN (Mb.hn b) (Mb.hA b) (Mb.hM b) (Mb.hW b)) [] (.lop [0,1] [1,2,3,4] 2 (.exit 0) [(1,.p 0 0),(2,.p 1 0),(3,.lr 2 3 0 (Mb.dn b) false)] [some (vwO b),some vzO,some (.rows 82 3 (Mb.dn b) (qF (Mb.dA b) (Mb.dM b) (Mb.dW b)))] .z)))) K=((fun (q0:AV)=>(True/\True/\Con PG 81 [isv (Mb.mn b) (Mb.mf b)] [] (isv (Mb.mn b) (Mb.mf b)) []/\True/\True/\True/\True/\Con PG 81 [isv (Mb.sn b) (Mb.sf b)] [] (isv (Mb.sn b) (Mb.sf b)) []/\True/\True/\True/\Con PG 82 [svN (Mb.hn b) (Mb.hA b) (Mb.hM b) (Mb.hW b)] [] (svN (Mb.hn b) (Mb.hA b) (Mb.hM b) (Mb.hW b)) []/\True/\LDoes PG (loopAt PG 37 0) 39 2 (mkT [(1,.p 0 0),(2,.p 1 0),(3,.l0),(4,.i .i64 0)]) [some (vwO b),some vzO] (.exit 0) (mkT [(1,.p 0 0),(2,.p 1 0),(3,.lr 2 3 0 (Mb.dn b) false)]) [some (vwO b),some vzO,some (.rows 82 3 (Mb.dn b) (qF (Mb.dA b) (Mb.dM b) (Mb.dW b)))]/\True/\K (.rv (.agg [.i .i64 (Mb.x b 6),.i .i64 (Mb.x b 7),.i .i64 (Mb.x b 8),.sv 1 (Mb.mn b) fun i x=>CV.i .i64 (Mb.mf b i),.sv 1 (Mb.sn b) fun i x=>CV.i .i64 (Mb.sf b i),.sv 3 (Mb.hn b) (qF (Mb.hA b) (Mb.hM b) (Mb.hW b)),.lr 2 3 0 (Mb.dn b) false]) ⟨zz1 (AObj.cells 30 7 [] (zz1 (.i .i64 (Mb.x b 6)) (zz1 (.i .i64 (Mb.x b 7)) (zzl (.sv 1 (Mb.mn b) fun i x=>CV.i .i64 (Mb.mf b i))) (zzl q0)) (zz1 (.i .i64 (Mb.x b 8)) (zzl (.sv 1 (Mb.sn
 b) fun i x=>CV.i .i64 (Mb.sf b i))) (zzl (.lr 2 3 0 (Mb.dn b) false))))) (zzl (AObj.cells 30 7 [.i .i64 0,.i .i64 0,.i .i64 0,.l0,.l0,.l0,.l0] (zz1 (.i .i64 (Mb.x b 6)) (zz1 (.i .i64 (Mb.x b 7)) (zzl (.sv 1 (Mb.mn b) fun i x=>CV.i .i64 (Mb.mf b i))) (zzl q0)) (zz1 (.i .i64 (Mb.x b 8)) (zzl (.sv 1 (Mb.sn b) fun i x=>CV.i .i64 (Mb.sf b i))) (zzl (.lr 2 3 0 (Mb.dn b) false)))))) (zzl (AObj.rows 82 3 (Mb.dn b) (qF (Mb.dA b) (Mb.dM b) (Mb.dW b)))),3,[1,0,2,1,0,0,0,0,1,0]⟩) .z)) (.sv 3 (Mb.hn b) (qF (Mb.hA b) (Mb.hM b) (Mb.hW b)))):=by kernel_rfl
theorem cpR_vc (t:TS) (V:AV):runK PG 1000000 (.call 42 [tsV t] (mkH [])) (.c (.inl (oc 2 (.cal [] (svN (TS.n t 0) (TS.A t (nat_lit 0)) (TS.M t (nat_lit 0)) (TS.W t (nat_lit 0))) [] (.c (.inl (oc 2 (.cal [] (svN (TS.n t 1) (TS.A t (nat_lit 1)) (TS.M t (nat_lit 1)) (TS.W t (nat_lit 1))) [] (.c (.inl (oc 2 (.cal [] (svN (TS.n t 2) (TS.A t (nat_lit 2)) (TS.M t (nat_lit 2)) (TS.W t (nat_lit 2))) [] (.c (.inl (oc 2 (.cal [] (svN (TS.n t 3) (TS.A t (nat_lit 3)) (TS.M t (nat_lit 3)) (TS.W t (nat_lit 3))) [] (.c (.inl (oc 2 (.cal [] (svN (TS.n t 4) (TS.A t (nat_lit 4)) (TS.M t (nat_lit 4)) (TS.W t (nat_lit 4))) [] (.c (.inl (oc 2 (.cal [] (svN (TS.n t 5) (TS.A t (nat_lit 5)) (TS.M t (nat_lit 5)) (TS.W t (nat_lit 5))) [] (.c (.inl (oc 2 (.cal [] (svN (TS.n t 6) (TS.A t (nat_lit 6)) (TS.M t (nat_lit 6)) (TS.W t (nat_lit 6))) [] (.c (.inl (oc 2 (.cal [] (svN (TS.n t 7) (TS.A t (nat_lit 7)) (TS.M t (nat_lit 7)) (TS.W t (nat_lit 7))) [] (.c (.inl (oc 2 (.cal [] (svN (TS.n t 8) (TS.A t (nat_lit 8)) (TS.M t (nat_lit 8)) (TS.W t (nat_lit 8))) [] (.c (.inl (oc 2 (.cal [] (svN (TS.n t 9) (TS.A t (nat_lit 9)) (TS.M t (nat_lit 9)) (TS.W t (nat_lit 9))) [] (.c (.inl (oc 2 (.cal [] (svN (TS.n t 10) (TS.A t (nat_lit 10)) (TS.M t (nat_lit 10)) (TS.W t (nat_lit 10))) [] (.c (.inl (oc 2 (.cal [] (svN (TS.n t 11) (TS.A t (nat_lit 11)) (TS.M t (nat_lit 11)) (TS.W t (nat_lit 11))) [] (.c (.inl (oc 2 (.cal [] (svN (TS.n t 12) (TS.A t (nat_lit 12)) (TS.M t (nat_lit 12)) (TS.W t (nat_lit 12))) [] (.c
 (.inl (oc 2 (.cal [] (svN (TS.n t 13) (TS.A t (nat_lit 13)) (TS.M t (nat_lit 13)) (TS.W t (nat_lit 13))) [] (.c (.inl (oc 2 (.cal [] (svN (TS.n t 14) (TS.A t (nat_lit 14)) (TS.M t (nat_lit 14)) (TS.W t (nat_lit 14))) [] (.c (.inl (oc 2 (.cal [] (svN (TS.n t 15) (TS.A t (nat_lit 15)) (TS.M t (nat_lit 15)) (TS.W t (nat_lit 15))) [] (.c (.inl (oc 2 (.cal [] (svN (TS.n t 16) (TS.A t (nat_lit 16)) (TS.M t (nat_lit 16)) (TS.W t (nat_lit 16))) [] (.c (.inl (oc 2 (.cal [] (svN (TS.n t 17) (TS.A t (nat_lit 17)) (TS.M t (nat_lit 17)) (TS.W t (nat_lit 17))) [] (.c (.inl (oc 2 (.cal [] (svN (TS.n t 18) (TS.A t (nat_lit 18)) (TS.M t (nat_lit 18)) (TS.W t (nat_lit 18))) [] (.c (.inl (.c (.cal [] (isv (Rs.mn (TS.r t)) (Rs.mf (TS.r t))) [] (.cal [] (isv (Rs.sn (TS.r t)) (Rs.sf (TS.r t))) [] (.inl (oc 2 (.cal [] (AV.agg [AV.i .i64 (Mb.x (Rs.s (TS.r t) 0) 6),AV.i .i64 (Mb.x (Rs.s (TS.r t) 0) 7),AV.i .i64 (Mb.x (Rs.s (TS.r t) 0) 8),isv (Mb.mn (Rs.s (TS.r t) 0)) (Mb.mf (Rs.s (TS.r t) 0)),isv (Mb.sn (Rs.s (TS.r t) 0)) (Mb.sf (Rs.s (TS.r t) 0)),svN (Mb.hn (Rs.s (TS.r t) 0)) (Mb.hA (Rs.s (TS.r t) 0)) (Mb.hM (Rs.s (TS.r t) 0)) (Mb.hW (Rs.s (TS.r t) 0)),svN (Mb.dn (Rs.s (TS.r t) 0)) (Mb.dA (Rs.s (TS.r t) 0)) (Mb.dM (Rs.s (TS.r t) 0)) (Mb.dW (Rs.s (TS.r t) 0))]) [] (.c (.inl (oc 2 (.cal [] (AV.agg [AV.i .i64 (Mb.x (Rs.s (TS.r t) 1) 6),AV.i .i64 (Mb.x (Rs.s (TS.r t) 1) 7),AV.i .i64 (Mb.x (Rs.s (TS.r t) 1) 8),isv (Mb.mn (Rs.s (TS.r t) 1)) (Mb.mf (Rs.s (TS.r t) 1)),isv (Mb.sn (Rs.s (TS.r t) 1))
 (Mb.sf (Rs.s (TS.r t) 1)),svN (Mb.hn (Rs.s (TS.r t) 1)) (Mb.hA (Rs.s (TS.r t) 1)) (Mb.hM (Rs.s (TS.r t) 1)) (Mb.hW (Rs.s (TS.r t) 1)),svN (Mb.dn (Rs.s (TS.r t) 1)) (Mb.dA (Rs.s (TS.r t) 1)) (Mb.dM (Rs.s (TS.r t) 1)) (Mb.dW (Rs.s (TS.r t) 1))]) [] (.c (.inl (oc 2 (.cal [] (AV.agg [AV.i .i64 (Mb.x (Rs.s (TS.r t) 2) 6),AV.i .i64 (Mb.x (Rs.s (TS.r t) 2) 7),AV.i .i64 (Mb.x (Rs.s (TS.r t) 2) 8),isv (Mb.mn (Rs.s (TS.r t) 2)) (Mb.mf (Rs.s (TS.r t) 2)),isv (Mb.sn (Rs.s (TS.r t) 2)) (Mb.sf (Rs.s (TS.r t) 2)),svN (Mb.hn (Rs.s (TS.r t) 2)) (Mb.hA (Rs.s (TS.r t) 2)) (Mb.hM (Rs.s (TS.r t) 2)) (Mb.hW (Rs.s (TS.r t) 2)),svN (Mb.dn (Rs.s (TS.r t) 2)) (Mb.dA (Rs.s (TS.r t) 2)) (Mb.dM (Rs.s (TS.r t) 2)) (Mb.dW (Rs.s (TS.r t) 2))]) [] (.c (.inl (.c .z))))))))))))))))))))))))))))))))))))))))))))))))))))))))))))))))))))))))))))))))))))))))))))))) (fun r _=>rvIs V r)=(True/\Con PG 82 [svN (TS.n t 0) (TS.A t (nat_lit 0)) (TS.M t (nat_lit 0)) (TS.W t (nat_lit 0))] [] (svN (TS.n t 0) (TS.A t (nat_lit 0)) (TS.M t (nat_lit 0)) (TS.W t (nat_lit 0))) []/\True/\rg (1)/\True/\Con PG 82 [svN (TS.n t 1) (TS.A t (nat_lit 1)) (TS.M t (nat_lit 1)) (TS.W t (nat_lit 1))] [] (svN (TS.n t 1) (TS.A t (nat_lit 1)) (TS.M t (nat_lit 1)) (TS.W t (nat_lit 1))) []/\True/\rg (2)/\True/\Con PG 82 [svN (TS.n t 2) (TS.A t (nat_lit 2)) (TS.M t (nat_lit 2)) (TS.W t (nat_lit 2))] [] (svN (TS.n t 2) (TS.A t (nat_lit 2)) (TS.M t (nat_lit 2)) (TS.W t (nat_lit 2))) []/\True/\rg (3)/\True/\Con PG 82 [svN (TS.n
 t 3) (TS.A t (nat_lit 3)) (TS.M t (nat_lit 3)) (TS.W t (nat_lit 3))] [] (svN (TS.n t 3) (TS.A t (nat_lit 3)) (TS.M t (nat_lit 3)) (TS.W t (nat_lit 3))) []/\True/\rg (4)/\True/\Con PG 82 [svN (TS.n t 4) (TS.A t (nat_lit 4)) (TS.M t (nat_lit 4)) (TS.W t (nat_lit 4))] [] (svN (TS.n t 4) (TS.A t (nat_lit 4)) (TS.M t (nat_lit 4)) (TS.W t (nat_lit 4))) []/\True/\rg (5)/\True/\Con PG 82 [svN (TS.n t 5) (TS.A t (nat_lit 5)) (TS.M t (nat_lit 5)) (TS.W t (nat_lit 5))] [] (svN (TS.n t 5) (TS.A t (nat_lit 5)) (TS.M t (nat_lit 5)) (TS.W t (nat_lit 5))) []/\True/\rg (6)/\True/\Con PG 82 [svN (TS.n t 6) (TS.A t (nat_lit 6)) (TS.M t (nat_lit 6)) (TS.W t (nat_lit 6))] [] (svN (TS.n t 6) (TS.A t (nat_lit 6)) (TS.M t (nat_lit 6)) (TS.W t (nat_lit 6))) []/\True/\rg (7)/\True/\Con PG 82 [svN (TS.n t 7) (TS.A t (nat_lit 7)) (TS.M t (nat_lit 7)) (TS.W t (nat_lit 7))] [] (svN (TS.n t 7) (TS.A t (nat_lit 7)) (TS.M t (nat_lit 7)) (TS.W t (nat_lit 7))) []/\True/\rg (8)/\True/\Con PG 82 [svN (TS.n t 8) (TS.A t (nat_lit 8)) (TS.M t (nat_lit 8)) (TS.W t (nat_lit 8))] [] (svN (TS.n t 8) (TS.A t (nat_lit 8)) (TS.M t (nat_lit 8)) (TS.W t (nat_lit 8))) []/\True/\rg (9)/\True/\Con PG 82 [svN (TS.n t 9) (TS.A t (nat_lit 9)) (TS.M t (nat_lit 9)) (TS.W t (nat_lit 9))] [] (svN (TS.n t 9) (TS.A t (nat_lit 9)) (TS.M t (nat_lit 9)) (TS.W t (nat_lit 9))) []/\True/\rg (10)/\True/\Con PG 82 [svN (TS.n t 10) (TS.A t (nat_lit 10)) (TS.M t (nat_lit 10)) (TS.W t (nat_lit 10))] [] (svN (TS.n t 10)
 (TS.A t (nat_lit 10)) (TS.M t (nat_lit 10)) (TS.W t (nat_lit 10))) []/\True/\rg (11)/\True/\Con PG 82 [svN (TS.n t 11) (TS.A t (nat_lit 11)) (TS.M t (nat_lit 11)) (TS.W t (nat_lit 11))] [] (svN (TS.n t 11) (TS.A t (nat_lit 11)) (TS.M t (nat_lit 11)) (TS.W t (nat_lit 11))) []/\True/\rg (12)/\True/\Con PG 82 [svN (TS.n t 12) (TS.A t (nat_lit 12)) (TS.M t (nat_lit 12)) (TS.W t (nat_lit 12))] [] (svN (TS.n t 12) (TS.A t (nat_lit 12)) (TS.M t (nat_lit 12)) (TS.W t (nat_lit 12))) []/\True/\rg (13)/\True/\Con PG 82 [svN (TS.n t 13) (TS.A t (nat_lit 13)) (TS.M t (nat_lit 13)) (TS.W t (nat_lit 13))] [] (svN (TS.n t 13) (TS.A t (nat_lit 13)) (TS.M t (nat_lit 13)) (TS.W t (nat_lit 13))) []/\True/\rg (14)/\True/\Con PG 82 [svN (TS.n t 14) (TS.A t (nat_lit 14)) (TS.M t (nat_lit 14)) (TS.W t (nat_lit 14))] [] (svN (TS.n t 14) (TS.A t (nat_lit 14)) (TS.M t (nat_lit 14)) (TS.W t (nat_lit 14))) []/\True/\rg (15)/\True/\Con PG 82 [svN (TS.n t 15) (TS.A t (nat_lit 15)) (TS.M t (nat_lit 15)) (TS.W t (nat_lit 15))] [] (svN (TS.n t 15) (TS.A t (nat_lit 15)) (TS.M t (nat_lit 15)) (TS.W t (nat_lit 15))) []/\True/\rg (16)/\True/\Con PG 82 [svN (TS.n t 16) (TS.A t (nat_lit 16)) (TS.M t (nat_lit 16)) (TS.W t (nat_lit 16))] [] (svN (TS.n t 16) (TS.A t (nat_lit 16)) (TS.M t (nat_lit 16)) (TS.W t (nat_lit 16))) []/\True/\rg (17)/\True/\Con PG 82 [svN (TS.n t 17) (TS.A t (nat_lit 17)) (TS.M t (nat_lit 17)) (TS.W t (nat_lit 17))] [] (svN (TS.n t 17) (TS.A t (nat_lit 17)) (TS.M t
 (nat_lit 17)) (TS.W t (nat_lit 17))) []/\True/\rg (18)/\True/\Con PG 82 [svN (TS.n t 18) (TS.A t (nat_lit 18)) (TS.M t (nat_lit 18)) (TS.W t (nat_lit 18))] [] (svN (TS.n t 18) (TS.A t (nat_lit 18)) (TS.M t (nat_lit 18)) (TS.W t (nat_lit 18))) []/\True/\rg (19)/\True/\True/\Con PG 81 [isv (Rs.mn (TS.r t)) (Rs.mf (TS.r t))] [] (isv (Rs.mn (TS.r t)) (Rs.mf (TS.r t))) []/\True/\True/\True/\True/\Con PG 81 [isv (Rs.sn (TS.r t)) (Rs.sf (TS.r t))] [] (isv (Rs.sn (TS.r t)) (Rs.sf (TS.r t))) []/\True/\True/\True/\True/\Con PG 37 [AV.agg [AV.i .i64 (Mb.x (Rs.s (TS.r t) 0) 6),AV.i .i64 (Mb.x (Rs.s (TS.r t) 0) 7),AV.i .i64 (Mb.x (Rs.s (TS.r t) 0) 8),isv (Mb.mn (Rs.s (TS.r t) 0)) (Mb.mf (Rs.s (TS.r t) 0)),isv (Mb.sn (Rs.s (TS.r t) 0)) (Mb.sf (Rs.s (TS.r t) 0)),svN (Mb.hn (Rs.s (TS.r t) 0)) (Mb.hA (Rs.s (TS.r t) 0)) (Mb.hM (Rs.s (TS.r t) 0)) (Mb.hW (Rs.s (TS.r t) 0)),svN (Mb.dn (Rs.s (TS.r t) 0)) (Mb.dA (Rs.s (TS.r t) 0)) (Mb.dM (Rs.s (TS.r t) 0)) (Mb.dW (Rs.s (TS.r t) 0))]] [] (AV.agg [AV.i .i64 (Mb.x (Rs.s (TS.r t) 0) 6),AV.i .i64 (Mb.x (Rs.s (TS.r t) 0) 7),AV.i .i64 (Mb.x (Rs.s (TS.r t) 0) 8),isv (Mb.mn (Rs.s (TS.r t) 0)) (Mb.mf (Rs.s (TS.r t) 0)),isv (Mb.sn (Rs.s (TS.r t) 0)) (Mb.sf (Rs.s (TS.r t) 0)),svN (Mb.hn (Rs.s (TS.r t) 0)) (Mb.hA (Rs.s (TS.r t) 0)) (Mb.hM (Rs.s (TS.r t) 0)) (Mb.hW (Rs.s (TS.r t) 0)),svN (Mb.dn (Rs.s (TS.r t) 0)) (Mb.dA (Rs.s (TS.r t) 0)) (Mb.dM (Rs.s (TS.r t) 0)) (Mb.dW (Rs.s (TS.r t) 0))]) []/\True/\True/\rg (1)/\True/\True
 /\Con PG 37 [AV.agg [AV.i .i64 (Mb.x (Rs.s (TS.r t) 1) 6),AV.i .i64 (Mb.x (Rs.s (TS.r t) 1) 7),AV.i .i64 (Mb.x (Rs.s (TS.r t) 1) 8),isv (Mb.mn (Rs.s (TS.r t) 1)) (Mb.mf (Rs.s (TS.r t) 1)),isv (Mb.sn (Rs.s (TS.r t) 1)) (Mb.sf (Rs.s (TS.r t) 1)),svN (Mb.hn (Rs.s (TS.r t) 1)) (Mb.hA (Rs.s (TS.r t) 1)) (Mb.hM (Rs.s (TS.r t) 1)) (Mb.hW (Rs.s (TS.r t) 1)),svN (Mb.dn (Rs.s (TS.r t) 1)) (Mb.dA (Rs.s (TS.r t) 1)) (Mb.dM (Rs.s (TS.r t) 1)) (Mb.dW (Rs.s (TS.r t) 1))]] [] (AV.agg [AV.i .i64 (Mb.x (Rs.s (TS.r t) 1) 6),AV.i .i64 (Mb.x (Rs.s (TS.r t) 1) 7),AV.i .i64 (Mb.x (Rs.s (TS.r t) 1) 8),isv (Mb.mn (Rs.s (TS.r t) 1)) (Mb.mf (Rs.s (TS.r t) 1)),isv (Mb.sn (Rs.s (TS.r t) 1)) (Mb.sf (Rs.s (TS.r t) 1)),svN (Mb.hn (Rs.s (TS.r t) 1)) (Mb.hA (Rs.s (TS.r t) 1)) (Mb.hM (Rs.s (TS.r t) 1)) (Mb.hW (Rs.s (TS.r t) 1)),svN (Mb.dn (Rs.s (TS.r t) 1)) (Mb.dA (Rs.s (TS.r t) 1)) (Mb.dM (Rs.s (TS.r t) 1)) (Mb.dW (Rs.s (TS.r t) 1))]) []/\True/\True/\rg (2)/\True/\True/\Con PG 37 [AV.agg [AV.i .i64 (Mb.x (Rs.s (TS.r t) 2) 6),AV.i .i64 (Mb.x (Rs.s (TS.r t) 2) 7),AV.i .i64 (Mb.x (Rs.s (TS.r t) 2) 8),isv (Mb.mn (Rs.s (TS.r t) 2)) (Mb.mf (Rs.s (TS.r t) 2)),isv (Mb.sn (Rs.s (TS.r t) 2)) (Mb.sf (Rs.s (TS.r t) 2)),svN (Mb.hn (Rs.s (TS.r t) 2)) (Mb.hA (Rs.s (TS.r t) 2)) (Mb.hM (Rs.s (TS.r t) 2)) (Mb.hW (Rs.s (TS.r t) 2)),svN (Mb.dn (Rs.s (TS.r t) 2)) (Mb.dA (Rs.s (TS.r t) 2)) (Mb.dM (Rs.s (TS.r t) 2)) (Mb.dW (Rs.s (TS.r t) 2))]] [] (AV.agg [AV.i .i64 (Mb.x (Rs.s (TS.r t) 2) 6),AV.i .i64 (Mb.x
 (Rs.s (TS.r t) 2) 7),AV.i .i64 (Mb.x (Rs.s (TS.r t) 2) 8),isv (Mb.mn (Rs.s (TS.r t) 2)) (Mb.mf (Rs.s (TS.r t) 2)),isv (Mb.sn (Rs.s (TS.r t) 2)) (Mb.sf (Rs.s (TS.r t) 2)),svN (Mb.hn (Rs.s (TS.r t) 2)) (Mb.hA (Rs.s (TS.r t) 2)) (Mb.hM (Rs.s (TS.r t) 2)) (Mb.hW (Rs.s (TS.r t) 2)),svN (Mb.dn (Rs.s (TS.r t) 2)) (Mb.dA (Rs.s (TS.r t) 2)) (Mb.dM (Rs.s (TS.r t) 2)) (Mb.dW (Rs.s (TS.r t) 2))]) []/\True/\True/\rg (3)/\(tsV t)=V):=by kernel_rfl
theorem own_vc (t:TS) (V:AV):runK PG 1000000 (.call 16 [tsV t] (mkH [])) (.c (.cal [] (tsV t) [] .z)) (fun r _=>rvIs V r)=(Con PG 42 [tsV t] [] (tsV t) []/\(tsV t)=V):=by kernel_rfl
theorem c50_lp (n:Nat) (A M W:Nat->Int) (hn:n<=5864062014805):LDoes PG (loopAt PG 82 0) 19 0 (mkT [(0,svN n A M W),(3,.l0),(4,.i .i64 0)]) [] (.exit 0) (mkT [(3,.lr 0 3 0 n false)]) [some (.rows 80 3 n (qF A M W))]:=by
 have key:=loop_indE (P:=PG) (c:=loopAt PG 82 0) (n:=19) (b:=0) (x:=.exit 0) (l':=[(3,.lr 0 3 0 n false)]) (objs':=[some (.rows 80 3 n (qF A M W))]) (D:=Nat×Nat)
  (fun q:Nat×Nat=>([(0,svN n A M W),(3,.lr 0 3 0 q.2 false),(4,.i .i64 (ofNat q.1))],[some (.rows 80 3 q.2 (qF A M W))])) (fun q=>n-q.1) (fun q=>q.1<=n/\q.2=q.1) ?_ (0,0) ⟨Nat.zero_le _,rfl⟩
 · refine key.weak ⟨rfl,.inl rfl,rfl,.inr ⟨rfl,.inl ⟨0,3,0,false,rfl⟩⟩,rfl,.inl rfl,trivial⟩ ?_
   intro o ho
   simp at ho;subst ho
   exact ⟨_,rfl,rfl⟩
 rintro ⟨i,m⟩ ⟨hi,hm⟩
 simp only at hi hm
 subst hm
 refine ⟨Nat.zero_le _,?_⟩
 by_cases e:m=n
 · have h1:decide (ofNat m<ofNat n)=false:=by simp;omega
   refine ⟨_,_,(c50E_vc n m m A M W _ h1 _).mpr ⟨h1,?_⟩⟩
   subst e
   exact .inr ⟨[0],[],_,_,_,rfl,by simp,st_k [0] (by kernel_rfl),OEqL.refl _⟩
 · have h1:decide (ofNat m<ofNat n)=true:=by simp;omega
   refine ⟨_,_,(c50R_vc n m m A M W _ h1 _).mpr ⟨h1,⟨by simp,by simp<;>omega⟩,trivial,⟨by omega,trivial,by omega,by omega⟩,⟨by simp<;>omega,by simp<;>omega⟩,.inl ⟨(m+1,addN m 1),[2],[],_,_,[some (.rows 80 3 (addN m 1) (appZ m (qF A M W) (listF 3 [.i .i64 (A m),.i .i64 (M m),.i .i64 (W m)] 1)))],⟨by omega,addN_eq _ _⟩,by show n-(m+1)<n-m;omega,rfl,?_,?_⟩⟩⟩
   · dsimp only
     exact st_k [2] (by kernel_rfl)
   · dsimp only
     refine ⟨.rows ?_,trivial⟩
     intro j c hj hc
     rw [addN_eq] at hj
     rw [apq3 hc (fun _ _=>rfl) (fun c hc=>listF_q (A m) (M m) (W m) _ c hc)]
     by_cases d:j<m
     · rw [if_pos d]
     · obtain rfl:j=m:=by omega
       rw [if_neg d]
       rfl
theorem c50_con (n:Nat) (A M W:Nat->Int) (hn:n<=5864062014805):Con PG 82 [svN n A M W] [] (svN n A M W) []:=by
 have h0:Con PG 82 [svN n A M W] [] (.sv 3 n (shiftF 0 (qF A M W))) []:=by
  refine con_runX [0] [] (c50_vc n A M W _) ⟨c50_lp n A M W hn,_,_,rfl,?_⟩
  exact ret_fz [0] ((3=3/\0+n<=n)/\True) (by kernel_rfl) (by kernel_rfl) ⟨⟨rfl,by omega⟩,trivial⟩ (by kernel_rfl) rfl (by kernel_rfl) (by kernel_rfl) rfl trivial
 refine h0.post (VW.sv fun i j hi hj=>?_) trivial
 rw [shiftF_eq,Nat.zero_add]
theorem c51_lp (n:Nat) (f:Nat->Int) (hn:n<=17592186044416):LDoes PG (loopAt PG 81 0) 19 0 (mkT [(0,isv n f),(3,.l0),(4,.i .i64 0)]) [] (.exit 0) (mkT [(3,.lr 0 1 0 n false)]) [some (.rows 3 1 n fun i _=>.i .i64 (f i))]:=by
 have key:=loop_indE (P:=PG) (c:=loopAt PG 81 0) (n:=19) (b:=0) (x:=.exit 0) (l':=[(3,.lr 0 1 0 n false)]) (objs':=[some (.rows 3 1 n fun i _=>.i .i64 (f i))]) (D:=Nat×Nat)
  (fun q:Nat×Nat=>([(0,isv n f),(3,.lr 0 1 0 q.2 false),(4,.i .i64 (ofNat q.1))],[some (.rows 3 1 q.2 fun i _=>.i .i64 (f i))])) (fun q=>n-q.1) (fun q=>q.1<=n/\q.2=q.1) ?_ (0,0) ⟨Nat.zero_le _,rfl⟩
 · refine key.weak ⟨rfl,.inl rfl,rfl,.inr ⟨rfl,.inl ⟨0,1,0,false,rfl⟩⟩,rfl,.inl rfl,trivial⟩ ?_
   intro o ho
   simp at ho;subst ho
   exact ⟨_,rfl,rfl⟩
 rintro ⟨i,m⟩ ⟨hi,hm⟩
 simp only at hi hm
 subst hm
 refine ⟨Nat.zero_le _,?_⟩
 by_cases e:m=n
 · have h1:decide (ofNat m<ofNat n)=false:=by simp;omega
   refine ⟨_,_,(c51E_vc n m m f _ h1 _).mpr ⟨h1,?_⟩⟩
   subst e
   exact .inr ⟨[0],[],_,_,_,rfl,by simp,st_k [0] (by kernel_rfl),OEqL.refl _⟩
 · have h1:decide (ofNat m<ofNat n)=true:=by simp;omega
   refine ⟨_,_,(c51R_vc n m m f _ h1 _).mpr ⟨h1,⟨by simp,by simp<;>omega⟩,trivial,⟨by omega,trivial,by omega,by omega⟩,⟨by simp<;>omega,by simp<;>omega⟩,.inl ⟨(m+1,addN m 1),[2],[],_,_,[some (.rows 3 1 (addN m 1) (appZ m (fun i _=>.i .i64 (f i)) (listF 1 [.i .i64 (f m)] 1)))],⟨by omega,addN_eq _ _⟩,by show n-(m+1)<n-m;omega,rfl,?_,?_⟩⟩⟩
   · dsimp only
     exact st_k [2] (by kernel_rfl)
   · dsimp only
     refine ⟨.rows ?_,trivial⟩
     intro j c hj hc
     rw [addN_eq] at hj
     obtain rfl:c=0:=by omega
     rw [appZ_i (k:=.i64) (a:=f j) (b:=f m) rfl rfl]
     by_cases d:j<m
     · rw [if_pos d]
     · obtain rfl:j=m:=by omega
       rw [if_neg d]
theorem c51_con (n:Nat) (f:Nat->Int) (hn:n<=17592186044416):Con PG 81 [isv n f] [] (isv n f) []:=by
 have h0:Con PG 81 [isv n f] [] (.sv 1 n (shiftF 0 (fun i _=>.i .i64 (f i)))) []:=by
  refine con_runX [0] [] (c51_vc n f _) ⟨c51_lp n f hn,_,_,rfl,?_⟩
  exact ret_fz [0] ((1=1/\0+n<=n)/\True) (by kernel_rfl) (by kernel_rfl) ⟨⟨rfl,by omega⟩,trivial⟩ (by kernel_rfl) rfl (by kernel_rfl) (by kernel_rfl) rfl trivial
 refine h0.post (VW.sv fun i j hi hj=>?_) trivial
 rw [shiftF_eq,Nat.zero_add]
theorem c52_lp (b:Mb) (hn:b.dn<=5864062014805):LDoes PG (loopAt PG 37 0) 39 2 (mkT [(1,.p 0 0),(2,.p 1 0),(3,.l0),(4,.i .i64 0)]) [some (vwO b),some vzO] (.exit 0) (mkT [(1,.p 0 0),(2,.p 1 0),(3,.lr 2 3 0 b.dn false)]) [some (vwO b),some vzO,some (.rows 82 3 b.dn (qF b.dA b.dM b.dW))]:=by
 have key:=loop_indE (P:=PG) (c:=loopAt PG 37 0) (n:=39) (b:=2) (x:=.exit 0) (l':=[(1,.p 0 0),(2,.p 1 0),(3,.lr 2 3 0 b.dn false)]) (objs':=[some (vwO b),some vzO,some (.rows 82 3 b.dn (qF b.dA b.dM b.dW))]) (D:=Nat×Nat)
  (fun q:Nat×Nat=>([(1,.p 0 0),(2,.p 1 0),(3,.lr 2 3 0 q.2 false),(4,.i .i64 (ofNat q.1))],[some (vwO b),some vzO,some (.rows 82 3 q.2 (qF b.dA b.dM b.dW))])) (fun q=>b.dn-q.1) (fun q=>q.1<=b.dn/\q.2=q.1) ?_ (0,0) ⟨Nat.zero_le _,rfl⟩
 · refine key.weak ⟨rfl,.inl rfl,rfl,.inl rfl,rfl,.inr ⟨rfl,.inl ⟨2,3,0,false,rfl⟩⟩,rfl,.inl rfl,trivial⟩ ⟨.refl _,.refl _,?_⟩
   intro o ho
   simp at ho;subst ho
   exact ⟨_,rfl,rfl⟩
 rintro ⟨i,m⟩ ⟨hi,hm⟩
 simp only at hi hm
 subst hm
 refine ⟨by simp,?_⟩
 by_cases e:m=b.dn
 · have h1:decide (ofNat m<ofNat b.dn)=false:=by simp;omega
   refine ⟨_,_,(c52E_vc b m m _ h1 _).mpr ⟨trivial,h1,?_⟩⟩
   subst e
   exact .inr ⟨[0,1,2],[],_,_,_,rfl,by simp,st_k [0,1,2] (by kernel_rfl),OEqL.refl _⟩
 · have h1:decide (ofNat m<ofNat b.dn)=true:=by simp;omega
   refine ⟨_,_,(c52R_vc b m m _ h1 _).mpr ⟨trivial,h1,trivial,⟨by simp,by simp<;>omega⟩,trivial,⟨by omega,trivial,by omega,by omega⟩,⟨by simp<;>omega,by simp<;>omega⟩,.inl ⟨(m+1,addN m 1),[0,1,4],[],_,_,[some (vwO b),some vzO,some (.rows 82 3 (addN m 1) (appZ m (qF b.dA b.dM b.dW) (listF 3 [.i .i64 (b.dA m),.i .i64 (b.dM m),.i .i64 (b.dW m)] 1)))],⟨by omega,addN_eq _ _⟩,by show b.dn-(m+1)<b.dn-m;omega,rfl,?_,?_⟩⟩⟩
   · dsimp only
     exact st_k [0,1,4] (by kernel_rfl)
   · dsimp only
     refine ⟨.refl _,.refl _,.rows ?_,trivial⟩
     intro j c hj hc
     rw [addN_eq] at hj
     rw [apq3 hc (fun _ _=>rfl) (fun c hc=>listF_q (b.dA m) (b.dM m) (b.dW m) _ c hc)]
     by_cases d:j<m
     · rw [if_pos d]
     · obtain rfl:j=m:=by omega
       rw [if_neg d]
       rfl
theorem c52_con (b:Mb) (hb:b.mn<=17592186044416/\b.sn<=17592186044416/\b.hn<=5864062014805/\b.dn<=5864062014805):Con PG 37 [.agg (vwL b)] [] (.agg (vwL b)) []:=by
 obtain ⟨b1,b2,b3,b4⟩:=hb
 have h0:Con PG 37 [.agg (vwL b)] [] (.agg [.i .i64 (b.x 6),.i .i64 (b.x 7),.i .i64 (b.x 8),isv b.mn b.mf,isv b.sn b.sf,svN b.hn b.hA b.hM b.hW,.sv 3 b.dn (shiftF 0 (qF b.dA b.dM b.dW))]) []:=by
  refine con_runX [2] [] (c52_vc b _) ⟨trivial,trivial,c51_con _ _ b1,trivial,trivial,trivial,trivial,c51_con _ _ b2,trivial,trivial,trivial,c50_con _ _ _ _ b3,trivial,c52_lp b b4,trivial,_,_,rfl,?_⟩
  exact ret_fz [2] ((True/\True/\True/\True/\True/\True/\(3=3/\0+b.dn<=b.dn)/\True)/\True) (by kernel_rfl) (by kernel_rfl) ⟨⟨trivial,trivial,trivial,trivial,trivial,trivial,⟨rfl,by omega⟩,trivial⟩,trivial⟩ (by kernel_rfl) rfl (by kernel_rfl) (by kernel_rfl) rfl trivial
 refine h0.post (.agg ⟨.refl _,.refl _,.refl _,.refl _,.refl _,.refl _,VW.sv fun i j hi hj=>?_,trivial⟩) trivial
 rw [shiftF_eq,Nat.zero_add]
theorem cp_con (t:TS) (ok:t.ok):Con PG 42 [tsV t] [] (tsV t) []:=by
 obtain ⟨m1,m2⟩:=ok.m
 refine con_pureX (cpR_vc t _) (tsV_below t) ?_
 exact ⟨trivial,c50_con _ _ _ _ (ok.q _),trivial,⟨by decide,by decide⟩,trivial,c50_con _ _ _ _ (ok.q _),trivial,⟨by decide,by decide⟩,trivial,c50_con _ _ _ _ (ok.q _),trivial,⟨by decide,by decide⟩,trivial,c50_con _ _ _ _ (ok.q _),trivial,⟨by decide,by decide⟩,trivial,c50_con _ _ _ _ (ok.q _),trivial,⟨by decide,by decide⟩,trivial,c50_con _ _ _ _ (ok.q _),trivial,⟨by decide,by decide⟩,trivial,c50_con _ _ _ _ (ok.q _),trivial,⟨by decide,by decide⟩,trivial,c50_con _ _ _ _ (ok.q _),trivial,⟨by decide,by decide⟩,trivial,c50_con _ _ _ _ (ok.q _),trivial,⟨by decide,by decide⟩,trivial,c50_con _ _ _ _ (ok.q _),trivial,⟨by decide,by decide⟩,trivial,c50_con _ _ _ _ (ok.q _),trivial,⟨by decide,by decide⟩,trivial,c50_con _ _ _ _ (ok.q _),trivial,⟨by decide,by decide⟩,trivial,c50_con _ _ _ _ (ok.q _),trivial,⟨by decide,by decide⟩,trivial,c50_con _ _ _ _ (ok.q _),trivial,⟨by decide,by decide⟩,trivial,c50_con _ _ _ _ (ok.q _),trivial,⟨by decide,by decide⟩,trivial,c50_con _ _ _ _ (ok.q _),trivial,⟨by decide,by decide⟩,trivial,c50_con _ _ _ _ (ok.q _),trivial,⟨by decide,by decide⟩,trivial,c50_con _ _ _ _ (ok.q _),trivial,⟨by decide,by decide⟩,trivial,c50_con _ _ _ _ (ok.q _),trivial,⟨by decide,by decide⟩,trivial,trivial,c51_con _ _ m1,trivial,trivial,trivial,trivial,c51_con _ _ m2,trivial,trivial,trivial,trivial,c52_con _ (ok.s _),trivial,trivial,⟨by decide,by decide⟩,trivial,trivial,c52_con _ (ok.s _),trivial,trivial,⟨by decide,by decide⟩,trivial,trivial,c52_con _ (ok.s _),trivial,trivial,⟨by decide,by decide⟩,by kernel_rfl⟩
theorem own_con (s:LS) (ok:s.ok):Con PG 16 [lsV s] [] (lsV s) []:=
 con_pureX (own_vc s.ts _) (tsV_below _) (by repeat' first | exact trivial | exact cp_con _ ok | exact rfl | apply And.intro)
theorem goL_len:∀(q:List HQ) (h:Nat->Int),(goL h q).q.length<=q.length
 | [],h=>Nat.le_refl _
 | x :: q,h=>by
   unfold goL
   cases canB h x.a x.m with
   | true=>exact Nat.le_trans (goL_len q _) (by simp)
   | false=>exact Nat.le_refl _
theorem LS.ok.set {s:LS} (ok:s.ok) (l:Nat) {r:Rw} (h:r.q.length<=1000):(s.set l r).ok:=by
 refine ⟨ok.m,ok.s,fun j=>?_⟩
 show ((s.set l r).row j).q.length<=_
 unfold LS.set
 cases hb:Nat.beq j l with
 | true=>simp only [hb,cond_true];omega
 | false=>simp only [hb,cond_false];exact ok.q j
theorem zS_ok:zS.ok:=⟨⟨by decide,by decide⟩,fun i=>⟨by show 0<=_;omega,by show 0<=_;omega,by show 0<=_;omega,by show 0<=_;omega⟩,fun l=>by show 0<=_;omega⟩
theorem askS_ok {s:LS} (ok:s.ok) (l k m:Int):(askS s l k m).ok:=by
 unfold askS
 cases h:okA s l k m with
 | false=>exact zS_ok
 | true=>
   unfold okA at h
   simp only [Bool.and_eq_true] at h
   obtain ⟨h1,h2,h3,h4⟩:=h
   have hl:0<=l/\l<19:=by simpa [isLockB] using h1
   have hk:0<=k/\k<3:=by simpa [isServerB] using h2
   have ha:=askR_ok (mayB_ok (va_row h4 (l:=l.toNat) (by omega))) m hk
   exact ok.set _ (Nat.le_trans (goL_len _ _) ha.1)
theorem freeS_ok {s:LS} (ok:s.ok) (l k:Int):(freeS s l k).ok:=by
 unfold freeS
 cases h:okF s l k with
 | false=>exact zS_ok
 | true=>
   unfold okF at h
   simp only [Bool.and_eq_true] at h
   obtain ⟨h1,h2,h4⟩:=h
   have hl:0<=l/\l<19:=by simpa [isLockB] using h1
   have ha:=freeR_ok (mayB_ok (va_row h4 (l:=l.toNat) (by omega))) k
   exact ok.set _ (Nat.le_trans (goL_len _ _) ha.1)
theorem dropS_ok {s:LS} (ok:s.ok) (k:Int):(dropS s k).ok:=by
 unfold dropS
 cases h1:isServerB k with
 | false=>exact ok
 | true=>
   cases h2:vaS s with
   | false=>exact ok
   | true=>
     refine ⟨ok.m,ok.s,fun j=>?_⟩
     show ((dropN s k 19).row j).q.length<=_
     unfold dropN
     cases hb:Nat.blt j 19 with
     | true=>
       have hj:j<19:=by rwa [Nat.blt_eq] at hb
       have ha:=freeR_ok (mayB_ok (va_row h2 hj)) k
       have hg:=goL_len (freeR (s.row j) k).q (freeR (s.row j) k).h
       simp only [hb,cond_true]
       have e:onR (freeR (s.row j) k)=goL (freeR (s.row j) k).h (freeR (s.row j) k).q:=rfl
       rw [e];omega
     | false=>simp only [hb,cond_false];exact ok.q j
def w1:LS:=askS zS 3 0 1
def w2:LS:=askS w1 3 1 1
def w3:LS:=askS w2 3 2 2
def w4:LS:=askS w3 3 0 2
def w5:LS:=freeS w4 3 1
theorem e1:askE zS 3 0 1=0:=by kernel_rfl
theorem e2:askE w1 3 1 1=0:=by kernel_rfl
theorem e3:askE w2 3 2 2=0:=by kernel_rfl
theorem e4:askE w3 3 0 2=0:=by kernel_rfl
theorem e5:freeE w4 3 1=0:=by kernel_rfl
theorem e6:freeE w5 3 0=0:=by kernel_rfl
end Go.Proofs.Lk
