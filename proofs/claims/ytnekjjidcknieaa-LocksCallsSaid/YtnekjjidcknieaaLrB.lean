/- Runs over unknown values, told by the kernel: part LrB. -/
import Derived.Test.YtnekjjidcknieaaLrA
set_option linter.unusedSimpArgs false
set_option linter.unusedVariables false
set_option maxRecDepth 20000
namespace Go.Proofs.Lk
open Go Go.Sim Go.Proofs
noncomputable def cpj (t : TS) (l j : Nat) : AV := bif Nat.beq j l then .lr 0 3 0 (t.n j) false else svN (t.n j) (t.A j) (t.M j) (t.W j)
noncomputable def cpu (t : TS) (l j : Nat) : List Upd := bif Nat.beq j l then [.set (.rows 61 3 (t.n j) (qF (t.A j) (t.M j) (t.W j)))] else []
noncomputable def cpX (t : TS) (l : Nat) (n : Nat) : AV := .agg (List.set (tsL t) (101 + l) (.lr 0 3 0 n false))
noncomputable def cpY (t : TS) (l : Nat) : List AV := List.set (tsL t) (101 + l) (.lr 2 3 0 (t.n l) false)
def cpZ (n : Nat) : List Nat := Nat.rec [] (fun _ ih => 0 :: ih) n
def cpG (l : Nat) : List Nat := 1 :: (cpZ (24 - l) ++ 2 :: (cpZ l ++ [1, 0]))
theorem cpL_vc (t : TS) : ∀ (l : Nat) (hl : l < 19) (K : Res → Orc → Prop), runK Try.prog 1000000 (.call 36 [tsV t] (mkH [])) (Orc.c (Orc.inl (Orc.c (Orc.c (Orc.cal [] (cpj t l 0) (cpu t l 0) (Orc.c (Orc.inl (Orc.c (Orc.c (Orc.cal [] (cpj t l 1) (cpu t l 1) (Orc.c (Orc.inl (Orc.c (Orc.c (Orc.cal [] (cpj t l 2) (cpu t l 2) (Orc.c (Orc.inl (Orc.c (Orc.c (Orc.cal [] (cpj t l 3) (cpu t l 3) (Orc.c (Orc.inl (Orc.c (Orc.c (Orc.cal [] (cpj t l 4) (cpu t l 4) (Orc.c (Orc.inl (Orc.c (Orc.c (Orc.cal [] (cpj t l 5) (cpu t l 5) (Orc.c (Orc.inl (Orc.c (Orc.c (Orc.cal [] (cpj t l 6) (cpu t l 6) (Orc.c (Orc.inl (Orc.c (Orc.c (Orc.cal [] (cpj t l 7) (cpu t l 7) (Orc.c (Orc.inl (Orc.c (Orc.c (Orc.cal [] (cpj t l 8) (cpu t l 8) (Orc.c (Orc.inl (Orc.c (Orc.c (Orc.cal [] (cpj t l 9) (cpu t l 9) (Orc.c (Orc.inl (Orc.c (Orc.c (Orc.cal [] (cpj t l 10) (cpu t l 10) (Orc.c (Orc.inl (Orc.c (Orc.c (Orc.cal [] (cpj t l 11) (cpu t l 11) (Orc.c (Orc.inl (Orc.c (Orc.c (Orc.cal [] (cpj t l 12) (cpu t l 12) (Orc.c (Orc.inl (Orc.c (Orc.c (Orc.cal [] (cpj t l 13) (cpu t l 13) (Orc.c (Orc.inl (Orc.c (Orc.c (Orc.cal [] (cpj t l 14) (cpu t l 14) (Orc.c (Orc.inl (Orc.c (Orc.c (Orc.cal [] (cpj t l 15) (cpu t l 15) (Orc.c (Orc.inl (Orc.c (Orc.c (Orc.cal [] (cpj t l 16) (cpu t l 16) (Orc.c (Orc.inl (Orc.c (Orc.c (Orc.cal [] (cpj t l 17) (cpu t l 17) (Orc.c (Orc.inl (Orc.c (Orc.c (Orc.cal [] (cpj t l 18) (cpu t l 18) (Orc.c (Orc.inl (Orc.c (Orc.cal [] (isv (Rs.mn (TS.r t)) (Rs.mf (TS.r t))) [] (Orc.cal [] (isv (Rs.sn (TS.r t)) (Rs.sf (TS.r t))) [] (Orc.inl (Orc.c (Orc.c (Orc.cal [] (AV.agg [AV.i IntKind.i64 (Mb.x (Rs.s (TS.r t) (0 : Nat)) (6 : Nat)), AV.i IntKind.i64 (Mb.x (Rs.s (TS.r t) (0 : Nat)) (7 : Nat)), AV.i IntKind.i64 (Mb.x (Rs.s (TS.r t) (0 : Nat)) (8 : Nat)), isv (Mb.mn (Rs.s (TS.r t) (0 : Nat))) (Mb.mf (Rs.s (TS.r t) (0 : Nat))), isv (Mb.sn (Rs.s (TS.r t) (0 : Nat))) (Mb.sf (Rs.s (TS.r t) (0 : Nat))), svN (Mb.hn (Rs.s (TS.r t) (0 : Nat))) (Mb.hA (Rs.s (TS.r t) (0 : Nat))) (Mb.hM (Rs.s (TS.r t) (0 : Nat))) (Mb.hW (Rs.s (TS.r t) (0 : Nat))), svN (Mb.dn (Rs.s (TS.r t) (0 : Nat))) (Mb.dA (Rs.s (TS.r t) (0 : Nat))) (Mb.dM (Rs.s (TS.r t) (0 : Nat))) (Mb.dW (Rs.s (TS.r t) (0 : Nat)))]) [] (Orc.c (Orc.inl (Orc.c (Orc.c (Orc.cal [] (AV.agg [AV.i IntKind.i64 (Mb.x (Rs.s (TS.r t) (1 : Nat)) (6 : Nat)), AV.i IntKind.i64 (Mb.x (Rs.s (TS.r t) (1 : Nat)) (7 : Nat)), AV.i IntKind.i64 (Mb.x (Rs.s (TS.r t) (1 : Nat)) (8 : Nat)), isv (Mb.mn (Rs.s (TS.r t) (1 : Nat))) (Mb.mf (Rs.s (TS.r t) (1 : Nat))), isv (Mb.sn (Rs.s (TS.r t) (1 : Nat))) (Mb.sf (Rs.s (TS.r t) (1 : Nat))), svN (Mb.hn (Rs.s (TS.r t) (1 : Nat))) (Mb.hA (Rs.s (TS.r t) (1 : Nat))) (Mb.hM (Rs.s (TS.r t) (1 : Nat))) (Mb.hW (Rs.s (TS.r t) (1 : Nat))), svN (Mb.dn (Rs.s (TS.r t) (1 : Nat))) (Mb.dA (Rs.s (TS.r t) (1 : Nat))) (Mb.dM (Rs.s (TS.r t) (1 : Nat))) (Mb.dW (Rs.s (TS.r t) (1 : Nat)))]) [] (Orc.c (Orc.inl (Orc.c (Orc.c (Orc.cal [] (AV.agg [AV.i IntKind.i64 (Mb.x (Rs.s (TS.r t) (2 : Nat)) (6 : Nat)), AV.i IntKind.i64 (Mb.x (Rs.s (TS.r t) (2 : Nat)) (7 : Nat)), AV.i IntKind.i64 (Mb.x (Rs.s (TS.r t) (2 : Nat)) (8 : Nat)), isv (Mb.mn (Rs.s (TS.r t) (2 : Nat))) (Mb.mf (Rs.s (TS.r t) (2 : Nat))), isv (Mb.sn (Rs.s (TS.r t) (2 : Nat))) (Mb.sf (Rs.s (TS.r t) (2 : Nat))), svN (Mb.hn (Rs.s (TS.r t) (2 : Nat))) (Mb.hA (Rs.s (TS.r t) (2 : Nat))) (Mb.hM (Rs.s (TS.r t) (2 : Nat))) (Mb.hW (Rs.s (TS.r t) (2 : Nat))), svN (Mb.dn (Rs.s (TS.r t) (2 : Nat))) (Mb.dA (Rs.s (TS.r t) (2 : Nat))) (Mb.dM (Rs.s (TS.r t) (2 : Nat))) (Mb.dW (Rs.s (TS.r t) (2 : Nat)))]) [] (Orc.c (Orc.inl (Orc.c Orc.z))))))))))))))))))))))))))))))))))))))))))))))))))))))))))))))))))))))))))))))))))))))))))))))))))))))))))))))))))))) K = (True ∧ Con Try.prog (50 : FuncId) [svN (TS.n t (0 : Nat)) (TS.A t (0 : Nat)) (TS.M t (0 : Nat)) (TS.W t (0 : Nat))] [] (cpj t l 0) (cpu t l 0) ∧ True ∧ ((-9223372036854775808 : Int) ≤ (1 : Int) ∧ (1 : Int) ≤ (9223372036854775807 : Int)) ∧ True ∧ Con Try.prog (50 : FuncId) [svN (TS.n t (1 : Nat)) (TS.A t (1)) (TS.M t (1)) (TS.W t (1))] [] (cpj t l 1) (cpu t l 1) ∧ True ∧ ((-9223372036854775808 : Int) ≤ (2 : Int) ∧ (2 : Int) ≤ (9223372036854775807 : Int)) ∧ True ∧ Con Try.prog (50 : FuncId) [svN (TS.n t (2 : Nat)) (TS.A t (2)) (TS.M t (2)) (TS.W t (2))] [] (cpj t l 2) (cpu t l 2) ∧ True ∧ ((-9223372036854775808 : Int) ≤ (3 : Int) ∧ (3 : Int) ≤ (9223372036854775807 : Int)) ∧ True ∧ Con Try.prog (50 : FuncId) [svN (TS.n t (3 : Nat)) (TS.A t (3)) (TS.M t (3)) (TS.W t (3))] [] (cpj t l 3) (cpu t l 3) ∧ True ∧ ((-9223372036854775808 : Int) ≤ (4 : Int) ∧ (4 : Int) ≤ (9223372036854775807 : Int)) ∧ True ∧ Con Try.prog (50 : FuncId) [svN (TS.n t (4 : Nat)) (TS.A t (4)) (TS.M t (4)) (TS.W t (4))] [] (cpj t l 4) (cpu t l 4) ∧ True ∧ ((-9223372036854775808 : Int) ≤ (5 : Int) ∧ (5 : Int) ≤ (9223372036854775807 : Int)) ∧ True ∧ Con Try.prog (50 : FuncId) [svN (TS.n t (5 : Nat)) (TS.A t (5)) (TS.M t (5)) (TS.W t (5))] [] (cpj t l 5) (cpu t l 5) ∧ True ∧ ((-9223372036854775808 : Int) ≤ (6 : Int) ∧ (6 : Int) ≤ (9223372036854775807 : Int)) ∧ True ∧ Con Try.prog (50 : FuncId) [svN (TS.n t (6 : Nat)) (TS.A t (6)) (TS.M t (6)) (TS.W t (6))] [] (cpj t l 6) (cpu t l 6) ∧ True ∧ ((-9223372036854775808 : Int) ≤ (7 : Int) ∧ (7 : Int) ≤ (9223372036854775807 : Int)) ∧ True ∧ Con Try.prog (50 : FuncId) [svN (TS.n t (7 : Nat)) (TS.A t (7)) (TS.M t (7)) (TS.W t (7))] [] (cpj t l 7) (cpu t l 7) ∧ True ∧ ((-9223372036854775808 : Int) ≤ (8 : Int) ∧ (8 : Int) ≤ (9223372036854775807 : Int)) ∧ True ∧ Con Try.prog (50 : FuncId) [svN (TS.n t (8 : Nat)) (TS.A t (8)) (TS.M t (8)) (TS.W t (8))] [] (cpj t l 8) (cpu t l 8) ∧ True ∧ ((-9223372036854775808 : Int) ≤ (9 : Int) ∧ (9 : Int) ≤ (9223372036854775807 : Int)) ∧ True ∧ Con Try.prog (50 : FuncId) [svN (TS.n t (9 : Nat)) (TS.A t (9)) (TS.M t (9)) (TS.W t (9))] [] (cpj t l 9) (cpu t l 9) ∧ True ∧ ((-9223372036854775808 : Int) ≤ (10 : Int) ∧ (10 : Int) ≤ (9223372036854775807 : Int)) ∧ True ∧ Con Try.prog (50 : FuncId) [svN (TS.n t (10 : Nat)) (TS.A t (10)) (TS.M t (10)) (TS.W t (10))] [] (cpj t l 10) (cpu t l 10) ∧ True ∧ ((-9223372036854775808 : Int) ≤ (11 : Int) ∧ (11 : Int) ≤ (9223372036854775807 : Int)) ∧ True ∧ Con Try.prog (50 : FuncId) [svN (TS.n t (11 : Nat)) (TS.A t (11)) (TS.M t (11)) (TS.W t (11))] [] (cpj t l 11) (cpu t l 11) ∧ True ∧ ((-9223372036854775808 : Int) ≤ (12 : Int) ∧ (12 : Int) ≤ (9223372036854775807 : Int)) ∧ True ∧ Con Try.prog (50 : FuncId) [svN (TS.n t (12 : Nat)) (TS.A t (12)) (TS.M t (12)) (TS.W t (12))] [] (cpj t l 12) (cpu t l 12) ∧ True ∧ ((-9223372036854775808 : Int) ≤ (13 : Int) ∧ (13 : Int) ≤ (9223372036854775807 : Int)) ∧ True ∧ Con Try.prog (50 : FuncId) [svN (TS.n t (13 : Nat)) (TS.A t (13)) (TS.M t (13)) (TS.W t (13))] [] (cpj t l 13) (cpu t l 13) ∧ True ∧ ((-9223372036854775808 : Int) ≤ (14 : Int) ∧ (14 : Int) ≤ (9223372036854775807 : Int)) ∧ True ∧ Con Try.prog (50 : FuncId) [svN (TS.n t (14 : Nat)) (TS.A t (14)) (TS.M t (14)) (TS.W t (14))] [] (cpj t l 14) (cpu t l 14) ∧ True ∧ ((-9223372036854775808 : Int) ≤ (15 : Int) ∧ (15 : Int) ≤ (9223372036854775807 : Int)) ∧ True ∧ Con Try.prog (50 : FuncId) [svN (TS.n t (15 : Nat)) (TS.A t (15)) (TS.M t (15)) (TS.W t (15))] [] (cpj t l 15) (cpu t l 15) ∧ True ∧ ((-9223372036854775808 : Int) ≤ (16 : Int) ∧ (16 : Int) ≤ (9223372036854775807 : Int)) ∧ True ∧ Con Try.prog (50 : FuncId) [svN (TS.n t (16 : Nat)) (TS.A t (16)) (TS.M t (16)) (TS.W t (16))] [] (cpj t l 16) (cpu t l 16) ∧ True ∧ ((-9223372036854775808 : Int) ≤ (17 : Int) ∧ (17 : Int) ≤ (9223372036854775807 : Int)) ∧ True ∧ Con Try.prog (50 : FuncId) [svN (TS.n t (17 : Nat)) (TS.A t (17)) (TS.M t (17)) (TS.W t (17))] [] (cpj t l 17) (cpu t l 17) ∧ True ∧ ((-9223372036854775808 : Int) ≤ (18 : Int) ∧ (18 : Int) ≤ (9223372036854775807 : Int)) ∧ True ∧ Con Try.prog (50 : FuncId) [svN (TS.n t (18 : Nat)) (TS.A t (18)) (TS.M t (18)) (TS.W t (18))] [] (cpj t l 18) (cpu t l 18) ∧ True ∧ ((-9223372036854775808 : Int) ≤ (19 : Int) ∧ (19 : Int) ≤ (9223372036854775807 : Int)) ∧ True ∧ True ∧ Con Try.prog (51 : FuncId) [isv (Rs.mn (TS.r t)) (Rs.mf (TS.r t))] [] (isv (Rs.mn (TS.r t)) (Rs.mf (TS.r t))) [] ∧ True ∧ True ∧ True ∧ True ∧ Con Try.prog (51 : FuncId) [isv (Rs.sn (TS.r t)) (Rs.sf (TS.r t))] [] (isv (Rs.sn (TS.r t)) (Rs.sf (TS.r t))) [] ∧ True ∧ True ∧ True ∧ True ∧ Con Try.prog (52 : FuncId) [AV.agg [AV.i IntKind.i64 (Mb.x (Rs.s (TS.r t) (0 : Nat)) (6 : Nat)), AV.i IntKind.i64 (Mb.x (Rs.s (TS.r t) (0 : Nat)) (7 : Nat)), AV.i IntKind.i64 (Mb.x (Rs.s (TS.r t) (0 : Nat)) (8 : Nat)), isv (Mb.mn (Rs.s (TS.r t) (0 : Nat))) (Mb.mf (Rs.s (TS.r t) (0 : Nat))), isv (Mb.sn (Rs.s (TS.r t) (0 : Nat))) (Mb.sf (Rs.s (TS.r t) (0 : Nat))), svN (Mb.hn (Rs.s (TS.r t) (0 : Nat))) (Mb.hA (Rs.s (TS.r t) (0 : Nat))) (Mb.hM (Rs.s (TS.r t) (0 : Nat))) (Mb.hW (Rs.s (TS.r t) (0 : Nat))), svN (Mb.dn (Rs.s (TS.r t) (0 : Nat))) (Mb.dA (Rs.s (TS.r t) (0 : Nat))) (Mb.dM (Rs.s (TS.r t) (0 : Nat))) (Mb.dW (Rs.s (TS.r t) (0 : Nat)))]] [] (AV.agg [AV.i IntKind.i64 (Mb.x (Rs.s (TS.r t) (0 : Nat)) (6 : Nat)), AV.i IntKind.i64 (Mb.x (Rs.s (TS.r t) (0 : Nat)) (7 : Nat)), AV.i IntKind.i64 (Mb.x (Rs.s (TS.r t) (0 : Nat)) (8 : Nat)), isv (Mb.mn (Rs.s (TS.r t) (0 : Nat))) (Mb.mf (Rs.s (TS.r t) (0 : Nat))), isv (Mb.sn (Rs.s (TS.r t) (0 : Nat))) (Mb.sf (Rs.s (TS.r t) (0 : Nat))), svN (Mb.hn (Rs.s (TS.r t) (0 : Nat))) (Mb.hA (Rs.s (TS.r t) (0 : Nat))) (Mb.hM (Rs.s (TS.r t) (0 : Nat))) (Mb.hW (Rs.s (TS.r t) (0 : Nat))), svN (Mb.dn (Rs.s (TS.r t) (0 : Nat))) (Mb.dA (Rs.s (TS.r t) (0 : Nat))) (Mb.dM (Rs.s (TS.r t) (0 : Nat))) (Mb.dW (Rs.s (TS.r t) (0 : Nat)))]) [] ∧ True ∧ True ∧ ((-9223372036854775808 : Int) ≤ (1 : Int) ∧ (1 : Int) ≤ (9223372036854775807 : Int)) ∧ True ∧ True ∧ Con Try.prog (52 : FuncId) [AV.agg [AV.i IntKind.i64 (Mb.x (Rs.s (TS.r t) (1 : Nat)) (6 : Nat)), AV.i IntKind.i64 (Mb.x (Rs.s (TS.r t) (1 : Nat)) (7 : Nat)), AV.i IntKind.i64 (Mb.x (Rs.s (TS.r t) (1 : Nat)) (8 : Nat)), isv (Mb.mn (Rs.s (TS.r t) (1 : Nat))) (Mb.mf (Rs.s (TS.r t) (1 : Nat))), isv (Mb.sn (Rs.s (TS.r t) (1 : Nat))) (Mb.sf (Rs.s (TS.r t) (1 : Nat))), svN (Mb.hn (Rs.s (TS.r t) (1 : Nat))) (Mb.hA (Rs.s (TS.r t) (1 : Nat))) (Mb.hM (Rs.s (TS.r t) (1 : Nat))) (Mb.hW (Rs.s (TS.r t) (1 : Nat))), svN (Mb.dn (Rs.s (TS.r t) (1 : Nat))) (Mb.dA (Rs.s (TS.r t) (1 : Nat))) (Mb.dM (Rs.s (TS.r t) (1 : Nat))) (Mb.dW (Rs.s (TS.r t) (1 : Nat)))]] [] (AV.agg [AV.i IntKind.i64 (Mb.x (Rs.s (TS.r t) (1 : Nat)) (6 : Nat)), AV.i IntKind.i64 (Mb.x (Rs.s (TS.r t) (1 : Nat)) (7 : Nat)), AV.i IntKind.i64 (Mb.x (Rs.s (TS.r t) (1 : Nat)) (8 : Nat)), isv (Mb.mn (Rs.s (TS.r t) (1 : Nat))) (Mb.mf (Rs.s (TS.r t) (1 : Nat))), isv (Mb.sn (Rs.s (TS.r t) (1 : Nat))) (Mb.sf (Rs.s (TS.r t) (1 : Nat))), svN (Mb.hn (Rs.s (TS.r t) (1 : Nat))) (Mb.hA (Rs.s (TS.r t) (1 : Nat))) (Mb.hM (Rs.s (TS.r t) (1 : Nat))) (Mb.hW (Rs.s (TS.r t) (1 : Nat))), svN (Mb.dn (Rs.s (TS.r t) (1 : Nat))) (Mb.dA (Rs.s (TS.r t) (1 : Nat))) (Mb.dM (Rs.s (TS.r t) (1 : Nat))) (Mb.dW (Rs.s (TS.r t) (1 : Nat)))]) [] ∧ True ∧ True ∧ ((-9223372036854775808 : Int) ≤ (2 : Int) ∧ (2 : Int) ≤ (9223372036854775807 : Int)) ∧ True ∧ True ∧ Con Try.prog (52 : FuncId) [AV.agg [AV.i IntKind.i64 (Mb.x (Rs.s (TS.r t) (2 : Nat)) (6 : Nat)), AV.i IntKind.i64 (Mb.x (Rs.s (TS.r t) (2 : Nat)) (7 : Nat)), AV.i IntKind.i64 (Mb.x (Rs.s (TS.r t) (2 : Nat)) (8 : Nat)), isv (Mb.mn (Rs.s (TS.r t) (2 : Nat))) (Mb.mf (Rs.s (TS.r t) (2 : Nat))), isv (Mb.sn (Rs.s (TS.r t) (2 : Nat))) (Mb.sf (Rs.s (TS.r t) (2 : Nat))), svN (Mb.hn (Rs.s (TS.r t) (2 : Nat))) (Mb.hA (Rs.s (TS.r t) (2 : Nat))) (Mb.hM (Rs.s (TS.r t) (2 : Nat))) (Mb.hW (Rs.s (TS.r t) (2 : Nat))), svN (Mb.dn (Rs.s (TS.r t) (2 : Nat))) (Mb.dA (Rs.s (TS.r t) (2 : Nat))) (Mb.dM (Rs.s (TS.r t) (2 : Nat))) (Mb.dW (Rs.s (TS.r t) (2 : Nat)))]] [] (AV.agg [AV.i IntKind.i64 (Mb.x (Rs.s (TS.r t) (2 : Nat)) (6 : Nat)), AV.i IntKind.i64 (Mb.x (Rs.s (TS.r t) (2 : Nat)) (7 : Nat)), AV.i IntKind.i64 (Mb.x (Rs.s (TS.r t) (2 : Nat)) (8 : Nat)), isv (Mb.mn (Rs.s (TS.r t) (2 : Nat))) (Mb.mf (Rs.s (TS.r t) (2 : Nat))), isv (Mb.sn (Rs.s (TS.r t) (2 : Nat))) (Mb.sf (Rs.s (TS.r t) (2 : Nat))), svN (Mb.hn (Rs.s (TS.r t) (2 : Nat))) (Mb.hA (Rs.s (TS.r t) (2 : Nat))) (Mb.hM (Rs.s (TS.r t) (2 : Nat))) (Mb.hW (Rs.s (TS.r t) (2 : Nat))), svN (Mb.dn (Rs.s (TS.r t) (2 : Nat))) (Mb.dA (Rs.s (TS.r t) (2 : Nat))) (Mb.dM (Rs.s (TS.r t) (2 : Nat))) (Mb.dW (Rs.s (TS.r t) (2 : Nat)))]) [] ∧ True ∧ True ∧ ((-9223372036854775808 : Int) ≤ (3 : Int) ∧ (3 : Int) ≤ (9223372036854775807 : Int)) ∧ K (Res.rv (.agg (cpY t l)) { tree := T.n (some (.cells 39 120 [] (setAll .e 0 (cpY t l)))) (T.n (some (.cells 39 120 zL (setAll .e 0 (cpY t l)))) T.e T.e) (T.n (some (.rows 61 3 (t.n l) (qF (t.A l) (t.M l) (t.W l)))) T.e T.e), next := 3, log := cpG l }) Orc.z) 
  | 0, _, K => by kernel_rfl
  | 1, _, K => by kernel_rfl
  | 2, _, K => by kernel_rfl
  | 3, _, K => by kernel_rfl
  | 4, _, K => by kernel_rfl
  | 5, _, K => by kernel_rfl
  | 6, _, K => by kernel_rfl
  | 7, _, K => by kernel_rfl
  | 8, _, K => by kernel_rfl
  | 9, _, K => by kernel_rfl
  | 10, _, K => by kernel_rfl
  | 11, _, K => by kernel_rfl
  | 12, _, K => by kernel_rfl
  | 13, _, K => by kernel_rfl
  | 14, _, K => by kernel_rfl
  | 15, _, K => by kernel_rfl
  | 16, _, K => by kernel_rfl
  | 17, _, K => by kernel_rfl
  | 18, _, K => by kernel_rfl
  | l + 19, h, K => absurd h (by omega)
theorem c50r_con (n : Nat) (A M W : Nat → Int) (hn : n ≤ 5864062014805) : Con Try.prog 50 [svN n A M W] [] (.lr 0 3 0 n false) [.set (.rows 61 3 n (qF A M W))] :=
  con_runX [] [0] (c50_vc n A M W _) ⟨c50_lp n A M W hn, _, _, rfl, ret_k (by kernel_rfl)⟩
theorem cpj_con (t : TS) (ok : t.ok) (l j : Nat) : Con Try.prog 50 [svN (t.n j) (t.A j) (t.M j) (t.W j)] [] (cpj t l j) (cpu t l j) := by
  unfold cpj cpu
  cases Nat.beq j l with
  | true => exact c50r_con _ _ _ _ (ok.q j)
  | false => exact c50_con _ _ _ _ (ok.q j)
theorem cpRet (t : TS) : ∀ (l : Nat) (_ : l < 19), RetIs [] (cpX t l (t.n l)) [.set (.rows 61 3 (t.n l) (qF (t.A l) (t.M l) (t.W l)))] [] [2] (.agg (cpY t l)) { tree := T.n (some (.cells 39 120 [] (setAll .e 0 (cpY t l)))) (T.n (some (.cells 39 120 zL (setAll .e 0 (cpY t l)))) T.e T.e) (T.n (some (.rows 61 3 (t.n l) (qF (t.A l) (t.M l) (t.W l)))) T.e T.e), next := 3, log := cpG l }
  | 0, _ => ret_k (by kernel_rfl)
  | 1, _ => ret_k (by kernel_rfl)
  | 2, _ => ret_k (by kernel_rfl)
  | 3, _ => ret_k (by kernel_rfl)
  | 4, _ => ret_k (by kernel_rfl)
  | 5, _ => ret_k (by kernel_rfl)
  | 6, _ => ret_k (by kernel_rfl)
  | 7, _ => ret_k (by kernel_rfl)
  | 8, _ => ret_k (by kernel_rfl)
  | 9, _ => ret_k (by kernel_rfl)
  | 10, _ => ret_k (by kernel_rfl)
  | 11, _ => ret_k (by kernel_rfl)
  | 12, _ => ret_k (by kernel_rfl)
  | 13, _ => ret_k (by kernel_rfl)
  | 14, _ => ret_k (by kernel_rfl)
  | 15, _ => ret_k (by kernel_rfl)
  | 16, _ => ret_k (by kernel_rfl)
  | 17, _ => ret_k (by kernel_rfl)
  | 18, _ => ret_k (by kernel_rfl)
  | l + 19, h => absurd h (by omega)
theorem cpr_con (t : TS) (ok : t.ok) (l : Nat) (hl : l < 19) : Con Try.prog 36 [tsV t] [] (cpX t l (t.n l)) [.set (.rows 61 3 (t.n l) (qF (t.A l) (t.M l) (t.W l)))] := by
  obtain ⟨m1, m2⟩ := ok.m
  refine con_runX [] [2] (cpL_vc t l hl _) ?_
  exact ⟨trivial, cpj_con t ok l _, trivial, ⟨by decide, by decide⟩, trivial, cpj_con t ok l _, trivial, ⟨by decide, by decide⟩, trivial, cpj_con t ok l _, trivial, ⟨by decide, by decide⟩, trivial, cpj_con t ok l _, trivial, ⟨by decide, by decide⟩, trivial, cpj_con t ok l _, trivial, ⟨by decide, by decide⟩, trivial, cpj_con t ok l _, trivial, ⟨by decide, by decide⟩, trivial, cpj_con t ok l _, trivial, ⟨by decide, by decide⟩, trivial, cpj_con t ok l _, trivial, ⟨by decide, by decide⟩, trivial, cpj_con t ok l _, trivial, ⟨by decide, by decide⟩, trivial, cpj_con t ok l _, trivial, ⟨by decide, by decide⟩, trivial, cpj_con t ok l _, trivial, ⟨by decide, by decide⟩, trivial, cpj_con t ok l _, trivial, ⟨by decide, by decide⟩, trivial, cpj_con t ok l _, trivial, ⟨by decide, by decide⟩, trivial, cpj_con t ok l _, trivial, ⟨by decide, by decide⟩, trivial, cpj_con t ok l _, trivial, ⟨by decide, by decide⟩, trivial, cpj_con t ok l _, trivial, ⟨by decide, by decide⟩, trivial, cpj_con t ok l _, trivial, ⟨by decide, by decide⟩, trivial, cpj_con t ok l _, trivial, ⟨by decide, by decide⟩, trivial, cpj_con t ok l _, trivial, ⟨by decide, by decide⟩, trivial, trivial, c51_con _ _ m1, trivial, trivial, trivial, trivial, c51_con _ _ m2, trivial, trivial, trivial, trivial, c52_con _ (ok.s _), trivial, trivial, ⟨by decide, by decide⟩, trivial, trivial, c52_con _ (ok.s _), trivial, trivial, ⟨by decide, by decide⟩, trivial, trivial, c52_con _ (ok.s _), trivial, trivial, ⟨by decide, by decide⟩, _, _, rfl, cpRet t l hl⟩
theorem asA_vc (t : TS) (lg : Bool) (k m : Int) : ∀ (l : Nat) (_ : l < 19) (V : AV), runK Try.prog 1000000 (.call 16 [tsV t, .i .i64 (Int.ofNat l), .i .i64 k, .i .i64 m] (mkH [])) (Orc.c (Orc.cal [] (AV.b lg) [] (Orc.t (Orc.t (Orc.f (Orc.t (Orc.t (Orc.f (Orc.f (Orc.cal [] (tsV t) [] (Orc.c (Orc.s (Orc.t Orc.z) Orc.z)))))))))))) (fun r _ => rvIs V r) = (Con Try.prog (37 : FuncId) [tsV t, AV.i IntKind.i64 (Int.ofNat l), AV.i IntKind.i64 k] [] (AV.b lg) [] ∧ True ∧ (!!lg) = true ∧ (!!lg) = true ∧ (!lg) = false ∧ (!decide (m < (1 : Int))) = true ∧ (!decide (m < (1 : Int))) = true ∧ decide (m < (1 : Int)) = false ∧ decide ((2 : Int) < m) = false ∧ Con Try.prog (36 : FuncId) [tsV t] [] (tsV t) [] ∧ True ∧ ((0 : Int) ≤ k ∧ k < (3 : Int)) ∧ Int.toNat k < (3 : Nat) ∧ decide (m ≤ List.getD [TS.h t l (0 : Nat), TS.h t l (1 : Nat), TS.h t l (2 : Nat)] (Int.toNat k) (0 : Int)) = true ∧ (AV.tup [tsV t, AV.i IntKind.i64 (0 : Int)]) = V)
  | 0, _, V => by kernel_rfl
  | 1, _, V => by kernel_rfl
  | 2, _, V => by kernel_rfl
  | 3, _, V => by kernel_rfl
  | 4, _, V => by kernel_rfl
  | 5, _, V => by kernel_rfl
  | 6, _, V => by kernel_rfl
  | 7, _, V => by kernel_rfl
  | 8, _, V => by kernel_rfl
  | 9, _, V => by kernel_rfl
  | 10, _, V => by kernel_rfl
  | 11, _, V => by kernel_rfl
  | 12, _, V => by kernel_rfl
  | 13, _, V => by kernel_rfl
  | 14, _, V => by kernel_rfl
  | 15, _, V => by kernel_rfl
  | 16, _, V => by kernel_rfl
  | 17, _, V => by kernel_rfl
  | 18, _, V => by kernel_rfl
  | l + 19, h, V => absurd h (by omega)
theorem asB_vc (t : TS) (w : TS) (lg : Bool) (ii : Int) (k m : Int) : ∀ (l : Nat) (_ : l < 19) (V : AV), runK Try.prog 1000000 (.call 16 [tsV t, .i .i64 (Int.ofNat l), .i .i64 k, .i .i64 m] (mkH [])) (Orc.c (Orc.cal [] (AV.b lg) [] (Orc.t (Orc.t (Orc.f (Orc.t (Orc.t (Orc.f (Orc.f (Orc.cal [] (AV.agg (List.set (tsL t) (101 + l) (AV.lr (0 : Nat) (3 : Nat) (0 : Nat) (TS.n t l) false))) [Upd.set (AObj.rows (61 : TypeId) (3 : Nat) (TS.n t l) (qF (TS.A t l) (TS.M t l) (TS.W t l)))] (Orc.c (Orc.s (Orc.f (Orc.c (Orc.cal [(2 : Nat)] (AV.i IntKind.i64 ii) [Upd.keep] (Orc.t (Orc.c (Orc.c (Orc.cal [(4 : Nat)] (tsV w) [Upd.gone] Orc.z))))))) Orc.z)))))))))))) (fun r _ => rvIs V r) = (Con Try.prog (37 : FuncId) [tsV t, AV.i IntKind.i64 (Int.ofNat l), AV.i IntKind.i64 k] [] (AV.b lg) [] ∧ True ∧ (!!lg) = true ∧ (!!lg) = true ∧ (!lg) = false ∧ (!decide (m < (1 : Int))) = true ∧ (!decide (m < (1 : Int))) = true ∧ decide (m < (1 : Int)) = false ∧ decide ((2 : Int) < m) = false ∧ Con Try.prog (36 : FuncId) [tsV t] [] (AV.agg (List.set (tsL t) (101 + l) (AV.lr (0 : Nat) (3 : Nat) (0 : Nat) (TS.n t l) false))) [Upd.set (AObj.rows (61 : TypeId) (3 : Nat) (TS.n t l) (qF (TS.A t l) (TS.M t l) (TS.W t l)))] ∧ True ∧ ((0 : Int) ≤ k ∧ k < (3 : Int)) ∧ Int.toNat k < (3 : Nat) ∧ decide (m ≤ List.getD [TS.h t l (0 : Nat), TS.h t l (1 : Nat), TS.h t l (2 : Nat)] (Int.toNat k) (0 : Int)) = false ∧ True ∧ Con Try.prog (38 : FuncId) [AV.lr (0 : Nat) (3 : Nat) (0 : Nat) (TS.n t l) false, AV.i IntKind.i64 k] [some (AObj.rows (61 : TypeId) (3 : Nat) (TS.n t l) (qF (TS.A t l) (TS.M t l) (TS.W t l)))] (AV.i IntKind.i64 ii) [Upd.keep] ∧ decide (ii < (0 : Int)) = true ∧ True ∧ ((0 : Nat) + TS.n t l ≤ TS.n t l ∧ True ∧ TS.n t l + (1 : Nat) ≤ (140737488355328 : Nat) ∧ ((3 : Nat) * (TS.n t l + (1 : Nat)) + (1536 : Nat)) * (24 : Nat) ≤ (562949953421312 : Nat)) ∧ True ∧ Con Try.prog (39 : FuncId) [AV.agg (List.set (tsL t) (101 + l) (AV.lr (0 : Nat) (3 : Nat) (0 : Nat) (addN (TS.n t l) (1 : Nat)) false)), AV.i IntKind.i64 (Int.ofNat l)] [some (AObj.rows (61 : TypeId) (3 : Nat) (addN (TS.n t l) (1 : Nat)) (appZ (TS.n t l) (qF (TS.A t l) (TS.M t l) (TS.W t l)) (listF (3 : Nat) [CV.i IntKind.i64 k, CV.i IntKind.i64 m, CV.i IntKind.i64 (0 : Int)] (1 : Nat))))] (tsV w) [Upd.gone] ∧ (AV.tup [tsV w, AV.i IntKind.i64 (0 : Int)]) = V)
  | 0, _, V => by kernel_rfl
  | 1, _, V => by kernel_rfl
  | 2, _, V => by kernel_rfl
  | 3, _, V => by kernel_rfl
  | 4, _, V => by kernel_rfl
  | 5, _, V => by kernel_rfl
  | 6, _, V => by kernel_rfl
  | 7, _, V => by kernel_rfl
  | 8, _, V => by kernel_rfl
  | 9, _, V => by kernel_rfl
  | 10, _, V => by kernel_rfl
  | 11, _, V => by kernel_rfl
  | 12, _, V => by kernel_rfl
  | 13, _, V => by kernel_rfl
  | 14, _, V => by kernel_rfl
  | 15, _, V => by kernel_rfl
  | 16, _, V => by kernel_rfl
  | 17, _, V => by kernel_rfl
  | 18, _, V => by kernel_rfl
  | l + 19, h, V => absurd h (by omega)
theorem asC_vc (t : TS) (w : TS) (lg : Bool) (ii : Int) (k m : Int) : ∀ (l : Nat) (_ : l < 19) (V : AV), runK Try.prog 1000000 (.call 16 [tsV t, .i .i64 (Int.ofNat l), .i .i64 k, .i .i64 m] (mkH [])) (Orc.c (Orc.cal [] (AV.b lg) [] (Orc.t (Orc.t (Orc.f (Orc.t (Orc.t (Orc.f (Orc.f (Orc.cal [] (AV.agg (List.set (tsL t) (101 + l) (AV.lr (0 : Nat) (3 : Nat) (0 : Nat) (TS.n t l) false))) [Upd.set (AObj.rows (61 : TypeId) (3 : Nat) (TS.n t l) (qF (TS.A t l) (TS.M t l) (TS.W t l)))] (Orc.c (Orc.s (Orc.f (Orc.c (Orc.cal [(2 : Nat)] (AV.i IntKind.i64 ii) [Upd.keep] (Orc.f (Orc.c (Orc.t (Orc.c (Orc.cal [(2 : Nat)] (tsV w) [Upd.gone] Orc.z)))))))) Orc.z)))))))))))) (fun r _ => rvIs V r) = (Con Try.prog (37 : FuncId) [tsV t, AV.i IntKind.i64 (Int.ofNat l), AV.i IntKind.i64 k] [] (AV.b lg) [] ∧ True ∧ (!!lg) = true ∧ (!!lg) = true ∧ (!lg) = false ∧ (!decide (m < (1 : Int))) = true ∧ (!decide (m < (1 : Int))) = true ∧ decide (m < (1 : Int)) = false ∧ decide ((2 : Int) < m) = false ∧ Con Try.prog (36 : FuncId) [tsV t] [] (AV.agg (List.set (tsL t) (101 + l) (AV.lr (0 : Nat) (3 : Nat) (0 : Nat) (TS.n t l) false))) [Upd.set (AObj.rows (61 : TypeId) (3 : Nat) (TS.n t l) (qF (TS.A t l) (TS.M t l) (TS.W t l)))] ∧ True ∧ ((0 : Int) ≤ k ∧ k < (3 : Int)) ∧ Int.toNat k < (3 : Nat) ∧ decide (m ≤ List.getD [TS.h t l (0 : Nat), TS.h t l (1 : Nat), TS.h t l (2 : Nat)] (Int.toNat k) (0 : Int)) = false ∧ True ∧ Con Try.prog (38 : FuncId) [AV.lr (0 : Nat) (3 : Nat) (0 : Nat) (TS.n t l) false, AV.i IntKind.i64 k] [some (AObj.rows (61 : TypeId) (3 : Nat) (TS.n t l) (qF (TS.A t l) (TS.M t l) (TS.W t l)))] (AV.i IntKind.i64 ii) [Upd.keep] ∧ decide (ii < (0 : Int)) = false ∧ True ∧ ((0 : Int) ≤ ii ∧ ii < ↑(TS.n t l)) ∧ True ∧ Int.toNat ii < TS.n t l ∧ decide (TS.M t l (Int.toNat ii) < m) = true ∧ True ∧ ((0 : Int) ≤ ii ∧ ii < ↑(TS.n t l)) ∧ True ∧ Int.toNat ii < TS.n t l ∧ Con Try.prog (39 : FuncId) [AV.agg (List.set (tsL t) (101 + l) (AV.lr (0 : Nat) (3 : Nat) (0 : Nat) (TS.n t l) false)), AV.i IntKind.i64 (Int.ofNat l)] [some (AObj.rows (61 : TypeId) (3 : Nat) (TS.n t l) (setRow (qF (TS.A t l) (TS.M t l) (TS.W t l)) (Int.toNat ii) (1 : Nat) [CV.i IntKind.i64 m]))] (tsV w) [Upd.gone] ∧ (AV.tup [tsV w, AV.i IntKind.i64 (0 : Int)]) = V)
  | 0, _, V => by kernel_rfl
  | 1, _, V => by kernel_rfl
  | 2, _, V => by kernel_rfl
  | 3, _, V => by kernel_rfl
  | 4, _, V => by kernel_rfl
  | 5, _, V => by kernel_rfl
  | 6, _, V => by kernel_rfl
  | 7, _, V => by kernel_rfl
  | 8, _, V => by kernel_rfl
  | 9, _, V => by kernel_rfl
  | 10, _, V => by kernel_rfl
  | 11, _, V => by kernel_rfl
  | 12, _, V => by kernel_rfl
  | 13, _, V => by kernel_rfl
  | 14, _, V => by kernel_rfl
  | 15, _, V => by kernel_rfl
  | 16, _, V => by kernel_rfl
  | 17, _, V => by kernel_rfl
  | 18, _, V => by kernel_rfl
  | l + 19, h, V => absurd h (by omega)
theorem asD_vc (t : TS) (w : TS) (lg : Bool) (ii : Int) (k m : Int) : ∀ (l : Nat) (_ : l < 19) (V : AV), runK Try.prog 1000000 (.call 16 [tsV t, .i .i64 (Int.ofNat l), .i .i64 k, .i .i64 m] (mkH [])) (Orc.c (Orc.cal [] (AV.b lg) [] (Orc.t (Orc.t (Orc.f (Orc.t (Orc.t (Orc.f (Orc.f (Orc.cal [] (tsV t) [] (Orc.c (Orc.s (Orc.f (Orc.c (Orc.cal [] (AV.i IntKind.i64 ii) [] (Orc.f (Orc.c (Orc.f (Orc.cal [] (tsV w) [] Orc.z))))))) Orc.z)))))))))))) (fun r _ => rvIs V r) = (Con Try.prog (37 : FuncId) [tsV t, AV.i IntKind.i64 (Int.ofNat l), AV.i IntKind.i64 k] [] (AV.b lg) [] ∧ True ∧ (!!lg) = true ∧ (!!lg) = true ∧ (!lg) = false ∧ (!decide (m < (1 : Int))) = true ∧ (!decide (m < (1 : Int))) = true ∧ decide (m < (1 : Int)) = false ∧ decide ((2 : Int) < m) = false ∧ Con Try.prog (36 : FuncId) [tsV t] [] (tsV t) [] ∧ True ∧ ((0 : Int) ≤ k ∧ k < (3 : Int)) ∧ Int.toNat k < (3 : Nat) ∧ decide (m ≤ List.getD [TS.h t l (0 : Nat), TS.h t l (1 : Nat), TS.h t l (2 : Nat)] (Int.toNat k) (0 : Int)) = false ∧ True ∧ Con Try.prog (38 : FuncId) [svN (TS.n t l) (TS.A t l) (TS.M t l) (TS.W t l), AV.i IntKind.i64 k] [] (AV.i IntKind.i64 ii) [] ∧ decide (ii < (0 : Int)) = false ∧ True ∧ ((0 : Int) ≤ ii ∧ ii < ↑(TS.n t l)) ∧ True ∧ True ∧ decide (TS.M t l (Int.toNat ii) < m) = false ∧ Con Try.prog (39 : FuncId) [tsV t, AV.i IntKind.i64 (Int.ofNat l)] [] (tsV w) [] ∧ (AV.tup [tsV w, AV.i IntKind.i64 (0 : Int)]) = V)
  | 0, _, V => by kernel_rfl
  | 1, _, V => by kernel_rfl
  | 2, _, V => by kernel_rfl
  | 3, _, V => by kernel_rfl
  | 4, _, V => by kernel_rfl
  | 5, _, V => by kernel_rfl
  | 6, _, V => by kernel_rfl
  | 7, _, V => by kernel_rfl
  | 8, _, V => by kernel_rfl
  | 9, _, V => by kernel_rfl
  | 10, _, V => by kernel_rfl
  | 11, _, V => by kernel_rfl
  | 12, _, V => by kernel_rfl
  | 13, _, V => by kernel_rfl
  | 14, _, V => by kernel_rfl
  | 15, _, V => by kernel_rfl
  | 16, _, V => by kernel_rfl
  | 17, _, V => by kernel_rfl
  | 18, _, V => by kernel_rfl
  | l + 19, h, V => absurd h (by omega)
theorem asE_vc (t : TS) (lg : Bool) (l k m : Int) (h : (!lg) = true) (V : AV) : runK Try.prog 1000000 (.call 16 [tsV t, .i .i64 l, .i .i64 k, .i .i64 m] (mkH [])) (Orc.c (Orc.cal [] (AV.b lg) [] (Orc.f (Orc.f (Orc.t (Orc.c (Orc.c (Orc.c (Orc.c Orc.z))))))))) (fun r _ => rvIs V r) = (Con Try.prog (37 : FuncId) [tsV t, AV.i IntKind.i64 l, AV.i IntKind.i64 k] [] (AV.b lg) [] ∧ True ∧ (!!lg) = false ∧ (!!lg) = false ∧ (!lg) = true ∧ (AV.tup [AV.agg zL, AV.i IntKind.i64 (2 : Int)]) = V) := by kernel_rfl
theorem asF_vc (t : TS) (lg : Bool) (l k m : Int) (h : (!lg) = false) (h1 : decide (m < 1) = true) (V : AV) : runK Try.prog 1000000 (.call 16 [tsV t, .i .i64 l, .i .i64 k, .i .i64 m] (mkH [])) (Orc.c (Orc.cal [] (AV.b lg) [] (Orc.t (Orc.t (Orc.f (Orc.f (Orc.f (Orc.t (Orc.c Orc.z))))))))) (fun r _ => rvIs V r) = (Con Try.prog (37 : FuncId) [tsV t, AV.i IntKind.i64 l, AV.i IntKind.i64 k] [] (AV.b lg) [] ∧ True ∧ (!!lg) = true ∧ (!!lg) = true ∧ (!lg) = false ∧ (!decide (m < (1 : Int))) = false ∧ (!decide (m < (1 : Int))) = false ∧ decide (m < (1 : Int)) = true ∧ (AV.tup [AV.agg zL, AV.i IntKind.i64 (2 : Int)]) = V) := by kernel_rfl
theorem asG_vc (t : TS) (lg : Bool) (l k m : Int) (h : (!lg) = false) (h1 : decide (m < 1) = false) (h2 : decide (2 < m) = true) (V : AV) : runK Try.prog 1000000 (.call 16 [tsV t, .i .i64 l, .i .i64 k, .i .i64 m] (mkH [])) (Orc.c (Orc.cal [] (AV.b lg) [] (Orc.t (Orc.t (Orc.f (Orc.t (Orc.t (Orc.f (Orc.t Orc.z))))))))) (fun r _ => rvIs V r) = (Con Try.prog (37 : FuncId) [tsV t, AV.i IntKind.i64 l, AV.i IntKind.i64 k] [] (AV.b lg) [] ∧ True ∧ (!!lg) = true ∧ (!!lg) = true ∧ (!lg) = false ∧ (!decide (m < (1 : Int))) = true ∧ (!decide (m < (1 : Int))) = true ∧ decide (m < (1 : Int)) = false ∧ decide ((2 : Int) < m) = true ∧ (AV.tup [AV.agg zL, AV.i IntKind.i64 (2 : Int)]) = V) := by kernel_rfl
def isISB : AV → Bool
  | .i _ _ => true
  | .sv _ _ _ => true
  | _ => false
noncomputable def allIS : List AV → Bool
  | [] => true
  | x :: r => isISB x && allIS r
theorem tsL_is (t : TS) : allIS (tsL t) = true := by kernel_rfl
theorem frzsP_is {A : Nat} {z : Frz} : ∀ (xs : List AV), allIS xs = true → frzsP A z xs
  | [], _ => by simp only [frzsP]
  | x :: r, h => by
    unfold allIS at h
    rw [Bool.and_eq_true] at h
    simp only [frzsP]
    refine ⟨?_, frzsP_is r h.2⟩
    cases x <;> simp [isISB] at h <;> simp only [frzP]
theorem frzsP_set {A : Nat} {z : Frz} {y : AV} (hy : frzP A z y) : ∀ (xs : List AV) (k : Nat), allIS xs = true → frzsP A z (xs.set k y)
  | [], k, _ => by simp only [List.set_nil, frzsP]
  | x :: r, 0, h => by
    unfold allIS at h
    rw [Bool.and_eq_true] at h
    simp only [List.set_cons_zero, frzsP]
    exact ⟨hy, frzsP_is r h.2⟩
  | x :: r, k + 1, h => by
    unfold allIS at h
    rw [Bool.and_eq_true] at h
    simp only [List.set_cons_succ, frzsP]
    refine ⟨?_, frzsP_set hy r k h.2⟩
    cases x <;> simp [isISB] at h <;> simp only [frzP]
noncomputable def cpW (t : TS) (l n : Nat) (F : Nat → Nat → CV) : AV := .agg (List.set (tsL t) (101 + l) (.sv 3 n F))
theorem cpW_frz (t : TS) (n : Nat) (F : Nat → Nat → CV) : ∀ (l : Nat) (_ : l < 19), (frz 0 (.rows 3 n F) (cpX t l n), belows 0 [cpW t l n F, .i .i64 (Int.ofNat l)], rens (nameIn [] 1) [cpW t l n F, .i .i64 (Int.ofNat l)]) = (cpW t l n F, true, [cpW t l n F, .i .i64 (Int.ofNat l)])
  | 0, _ => by kernel_rfl
  | 1, _ => by kernel_rfl
  | 2, _ => by kernel_rfl
  | 3, _ => by kernel_rfl
  | 4, _ => by kernel_rfl
  | 5, _ => by kernel_rfl
  | 6, _ => by kernel_rfl
  | 7, _ => by kernel_rfl
  | 8, _ => by kernel_rfl
  | 9, _ => by kernel_rfl
  | 10, _ => by kernel_rfl
  | 11, _ => by kernel_rfl
  | 12, _ => by kernel_rfl
  | 13, _ => by kernel_rfl
  | 14, _ => by kernel_rfl
  | 15, _ => by kernel_rfl
  | 16, _ => by kernel_rfl
  | 17, _ => by kernel_rfl
  | 18, _ => by kernel_rfl
  | l + 19, h => absurd h (by omega)
theorem rinF_vc (n i : Nat) (A M W : Nat → Int) (k : Int) (h1 : decide (Int.ofNat i < Int.ofNat n) = true) (h2 : decide (A (Int.toNat (Int.ofNat i)) = k) = true) (K : Res → Orc → Prop) : runK Try.prog 1000000 (.code (loopAt Try.prog 38 0) 20 (mkT [(0, .lr 0 3 0 n false), (1, .i .i64 k), (5, .i .i64 (Int.ofNat i))]) (mkH [some (.rows 61 3 n (qF A M W))])) (Orc.t (Orc.t Orc.z)) K = (decide (Int.ofNat i < Int.ofNat n) = true ∧ (0 ≤ Int.ofNat i ∧ Int.ofNat i < ↑n) ∧ True ∧ i < n ∧ decide (A i = k) = true ∧ K (Res.st XO.ret (z1 (AV.lr 0 3 0 n false) (z1 (AV.i .i64 k) (z0 (z1 (AV.lr 0 3 0 n false) (zl (AV.pr 0 3 i 0)) T.e) (z0 (zl (AV.i .i64 (Int.ofNat i))) T.e)) (z1 (AV.i .i64 (Int.ofNat i)) (z1 (AV.b (decide (Int.ofNat i < Int.ofNat n))) (zl (AV.i .i64 k)) T.e) (zl (AV.i .i64 (Int.ofNat i))))) (z0 (z1 (AV.i .i64 (Int.ofNat i)) (z1 (AV.i .i64 (Int.ofNat n)) (zl (AV.i .i64 (A i))) T.e) (zl
  (AV.lr 0 3 0 n false))) (z1 (AV.i .i64 (Int.ofNat i)) (z0 (zl (AV.b (decide (A i = k)))) T.e) (zl (AV.pr 0 3 i 0))))) ⟨zl (AObj.rows 61 3 n (qF A M W)), 1, []⟩) Orc.z) := by kernel_rfl
theorem rinG_vc (n i : Nat) (A M W : Nat → Int) (k : Int) (h1 : decide (Int.ofNat i < Int.ofNat n) = true) (h2 : decide (A (Int.toNat (Int.ofNat i)) = k) = false) (K : Res → Orc → Prop) : runK Try.prog 1000000 (.code (loopAt Try.prog 38 0) 20 (mkT [(0, .lr 0 3 0 n false), (1, .i .i64 k), (5, .i .i64 (Int.ofNat i))]) (mkH [some (.rows 61 3 n (qF A M W))])) (Orc.t (Orc.f Orc.z)) K = (decide (Int.ofNat i < Int.ofNat n) = true ∧ (0 ≤ Int.ofNat i ∧ Int.ofNat i < ↑n) ∧ True ∧ i < n ∧ decide (A i = k) = false ∧ ((-9223372036854775808) ≤ Int.ofNat i + 1 ∧ Int.ofNat i + (1 : Int) ≤ (9223372036854775807 : Int)) ∧ K (Res.st XO.nrm (z1 (AV.lr 0 3 0 n false) (z1 (AV.i .i64 k) (z0 (z1 (AV.lr 0 3 0 n false) (zl (AV.pr 0 3 i 0)) T.e) (zl (AV.i .i64 (Int.ofNat i + 1)))) (z1 (AV.i .i64 (Int.ofNat i + 1)) (z1 (AV.b (decide (Int.ofNat i < Int.ofNat n))) (zl (AV.i .i64 k)) T.e) (zl (AV.i .i64 (Int.ofNat
  i))))) (z0 (z0 (z1 (AV.i .i64 (Int.ofNat n)) (zl (AV.i .i64 (A i))) T.e) (zl (AV.lr 0 3 0 n false))) (z1 (AV.i .i64 (Int.ofNat i)) (z1 (AV.i .i64 (Int.ofNat i)) (zl (AV.b (decide (A i = k)))) T.e) (zl (AV.pr 0 3 i 0))))) ⟨zl (AObj.rows 61 3 n (qF A M W)), 1, []⟩) Orc.z) := by kernel_rfl
theorem rinE_vc (n i : Nat) (A M W : Nat → Int) (k : Int) (h1 : decide (Int.ofNat i < Int.ofNat n) = false) (K : Res → Orc → Prop) : runK Try.prog 1000000 (.code (loopAt Try.prog 38 0) 20 (mkT [(0, .lr 0 3 0 n false), (1, .i .i64 k), (5, .i .i64 (Int.ofNat i))]) (mkH [some (.rows 61 3 n (qF A M W))])) (Orc.f Orc.z) K = (decide (Int.ofNat i < Int.ofNat n) = false ∧ K (Res.st (XO.exit 0) (z1 (AV.lr 0 3 0 n false) (z1 (AV.i .i64 k) (z0 (zl (AV.lr 0 3 0 n false)) T.e) (z1 (AV.i .i64 (Int.ofNat i)) (zl (AV.b (decide (Int.ofNat i < Int.ofNat n)))) T.e)) (z0 (z0 (zl (AV.i .i64 (Int.ofNat n))) T.e) (zl (AV.i .i64 (Int.ofNat i))))) ⟨zl (AObj.rows 61 3 n (qF A M W)), 1, []⟩) Orc.z) := by kernel_rfl
theorem rin1_vc (jq : Nat) (n : Nat) (A M W : Nat → Int) (k : Int) (K : Res → Orc → Prop) : runK Try.prog 1000000 (.call 38 [.lr 0 3 0 n false, .i .i64 k] (mkH [some (.rows 61 3 n (qF A M W))])) (Orc.lop [0] [0, 1, 5] 1 XO.ret [(4, AV.i .i64 (Int.ofNat jq))] [some (AObj.rows 61 3 n (qF A M W))] Orc.z) K = (LDoes Try.prog (loopAt Try.prog 38 0) 20 1 (mkT [(0, AV.lr 0 3 0 n false), (1, AV.i .i64 k), (5, AV.i .i64 0)]) [some (AObj.rows 61 3 n (qF A M W))] XO.ret (mkT [(4, AV.i .i64 (Int.ofNat jq))]) [some (AObj.rows 61 3 n (qF A M W))] ∧ K (Res.rv (AV.i .i64 (Int.ofNat jq)) ⟨zl (AObj.rows 61 3 n (qF A M W)), 1, [0]⟩) Orc.z) := by kernel_rfl
theorem rin2_vc (n : Nat) (A M W : Nat → Int) (k : Int) (K : Res → Orc → Prop) : runK Try.prog 1000000 (.call 38 [.lr 0 3 0 n false, .i .i64 k] (mkH [some (.rows 61 3 n (qF A M W))])) (Orc.lop [0] [0, 1, 5] 1 (XO.exit 0) [] [some (AObj.rows 61 3 n (qF A M W))] Orc.z) K = (LDoes Try.prog (loopAt Try.prog 38 0) 20 1 (mkT [(0, AV.lr 0 3 0 n false), (1, AV.i .i64 k), (5, AV.i .i64 0)]) [some (AObj.rows 61 3 n (qF A M W))] (XO.exit 0) (mkT []) [some (AObj.rows 61 3 n (qF A M W))] ∧ K (Res.rv (AV.i .i64 (-1)) ⟨zl (AObj.rows 61 3 n (qF A M W)), 1, [0]⟩) Orc.z) := by kernel_rfl
theorem rinF_lp (n : Nat) (A M W : Nat → Int) (k : Int) (hn : n ≤ 1152921504606846976) (hl : fi n A k < n) : LDoes Try.prog (loopAt Try.prog 38 0) 20 1 (mkT [(0, .lr 0 3 0 n false), (1, .i .i64 k), (5, .i .i64 0)]) [some (.rows 61 3 n (qF A M W))] .ret (mkT [(4, .i .i64 (Int.ofNat (fi n A k)))]) [some (.rows 61 3 n (qF A M W))] := by
  refine loop_ind (fun i : Nat => ([(0, .lr 0 3 0 n false), (1, .i .i64 k), (5, .i .i64 (Int.ofNat i))], [some (.rows 61 3 n (qF A M W))])) (fun i => n - i) (fun i => i ≤ fi n A k) ?_ 0 (Nat.zero_le _)
  intro i hi
  refine ⟨Nat.le_refl _, ?_⟩
  have h1 : decide (Int.ofNat i < Int.ofNat n) = true := by simp; omega
  by_cases e : i = fi n A k
  · have h2 : decide (A i = k) = true := by
      have := fi_at hl; simp; rw [e]; exact this
    refine ⟨_, _, (rinF_vc n i A M W k h1 h2 _).mpr ⟨h1, ⟨by simp, by simp; omega⟩, trivial, by omega, h2, .inr ⟨[0], [], _, _, rfl, by simp, ?_⟩⟩⟩
    rw [← e]
    exact st_k [0] (by kernel_rfl)
  · have h2 : decide (A i = k) = false := by
      have := fi_far (n := n) (A := A) (k := k) (j := i) (by omega); simpa using this
    refine ⟨_, _, (rinG_vc n i A M W k h1 h2 _).mpr ⟨h1, ⟨by simp, by simp; omega⟩, trivial, by omega, h2, ⟨by simp; omega, by simp; omega⟩, .inl ⟨i + 1, [0], [], _, _, by omega, (by show n - (i + 1) < n - i; omega), rfl, st_k [0] (by kernel_rfl)⟩⟩⟩
theorem rinE_lp (n : Nat) (A M W : Nat → Int) (k : Int) (hn : n ≤ 1152921504606846976) (hl : fi n A k = n) : LDoes Try.prog (loopAt Try.prog 38 0) 20 1 (mkT [(0, .lr 0 3 0 n false), (1, .i .i64 k), (5, .i .i64 0)]) [some (.rows 61 3 n (qF A M W))] (.exit 0) (mkT []) [some (.rows 61 3 n (qF A M W))] := by
  refine loop_ind (fun i : Nat => ([(0, .lr 0 3 0 n false), (1, .i .i64 k), (5, .i .i64 (Int.ofNat i))], [some (.rows 61 3 n (qF A M W))])) (fun i => n - i) (fun i => i ≤ n) ?_ 0 (Nat.zero_le _)
  intro i hi
  refine ⟨Nat.le_refl _, ?_⟩
  by_cases e : i = n
  · have h1 : decide (Int.ofNat i < Int.ofNat n) = false := by simp; omega
    exact ⟨_, _, (rinE_vc n i A M W k h1 _).mpr ⟨h1, .inr ⟨[0], [], _, _, rfl, by simp, st_k [0] (by kernel_rfl)⟩⟩⟩
  · have h1 : decide (Int.ofNat i < Int.ofNat n) = true := by simp; omega
    have h2 : decide (A i = k) = false := by
      have := fi_far (n := n) (A := A) (k := k) (j := i) (by omega); simpa using this
    refine ⟨_, _, (rinG_vc n i A M W k h1 h2 _).mpr ⟨h1, ⟨by simp, by simp; omega⟩, trivial, by omega, h2, ⟨by simp; omega, by simp; omega⟩, .inl ⟨i + 1, [0], [], _, _, by omega, (by show n - (i + 1) < n - i; omega), rfl, st_k [0] (by kernel_rfl)⟩⟩⟩
theorem rin_con (n : Nat) (A M W : Nat → Int) (k : Int) (hn : n ≤ 1152921504606846976) : Con Try.prog 38 [.lr 0 3 0 n false, .i .i64 k] [some (.rows 61 3 n (qF A M W))] (.i .i64 (inI n A k)) [.keep] := by
  unfold inI
  by_cases c : fi n A k < n
  · rw [if_pos c]
    exact con_runX [] [] (rin1_vc _ n A M W k _) ⟨rinF_lp n A M W k hn c, _, _, rfl, ret_k (by kernel_rfl)⟩
  · rw [if_neg c]
    have := fi_le n A k
    exact con_runX [] [] (rin2_vc n A M W k _) ⟨rinE_lp n A M W k hn (by omega), _, _, rfl, ret_k (by kernel_rfl)⟩
theorem thawV {ρ ρ' : Rho} {A : Nat} {z : Frz} (hle : Rho.le ρ ρ') (hA : ∀ B d N, ρ A = some (B, d, N) → FrzIn ρ'.ro B d z) {a c : AV} (hp : frzP A z a) {vs : List Value} (hc : c.one = true) (h : VRs ρ [a, c] vs) : VRs ρ' [frz A z a, c] vs := by
  cases h with | cons _ v _ vs h1 h2 =>
  cases h2 with | cons _ w _ ws h3 h4 =>
  cases h4
  exact .cons _ _ _ _ (frz_VR hle hA hp h1) (.cons _ _ _ _ (h3.mono hle) .nil)
theorem con_thawY {P : Program} {g : FuncId} {pargs pargs0 : List AV} {objs objs0 : List (Option AObj)} {v : AV} {us us0 : List Upd} (h : Con P g pargs objs v us) (A : Nat) {z : Frz}
    (hz : frzOf (mkH objs0) A = some z) (hL : FOL A z 0 objs0 objs) (ha : ∀ (ρ ρ' : Rho) (vs : List Value), Rho.le ρ ρ' → (∀ B d N, ρ A = some (B, d, N) → FrzIn ρ'.ro B d z) → VRs ρ pargs0 vs → VRs ρ' pargs vs) (hp : postL objs0 us0 = postL objs us) : Con P g pargs0 objs0 v us0 := by
  intro ρ w args' hva hh hoff
  obtain ⟨ρ2, m1, m2, m3, m4, m5⟩ := freeze_ok hz hh (Ext.refl ρ (mkH objs0) w)
  have hF : ∀ B d N, ρ2 A = some (B, d, N) → FrzIn ρ2.ro B d z := by
    intro B d N hB
    refine m3 B d N ?_
    have : ρ2.nm A = some (B, d, N) := hB
    rw [m1] at this; exact this
  have back : ∀ B o', (mkH objs).get B = some o' → ∃ o, (((mkH objs0).upd A none).get B = some o) ∧ (o.void → o'.void) ∧ ∀ p, BR ρ2 o p w → BR ρ2 o' p w := by
    intro B o' hB
    rw [mkH_get] at hB
    obtain ⟨q1, q2⟩ := hL.get B o' hB
    obtain ⟨x, hx, hvd, hbr⟩ := q2.some hB
    refine ⟨x, ?_, hvd, fun p => hbr ρ2 p w hF⟩
    rw [AH.get_upd, if_neg (by omega), mkH_get]; exact hx
  have hh2 : HR ρ2 (mkH objs) w := by
    refine ⟨?_, ?_, m4.range, m4.ro, ?_⟩
    · intro B o' hB
      obtain ⟨o, h1, h2, h3⟩ := back B o' hB
      rcases m4.live B o h1 with ⟨p, hp, hb⟩ | ⟨hv, hn⟩
      · exact .inl ⟨p, hp, h3 p hb⟩
      · exact .inr ⟨h2 hv, hn⟩
    · intro B B' o o' x x' hB hB' hx hx' he
      obtain ⟨q, h1, _⟩ := back B o hB
      obtain ⟨q', h1', _⟩ := back B' o' hB'
      exact m4.inj B B' q q' x x' h1 h1' hx hx' he
    · intro B j v hv C o x hC hx
      obtain ⟨q, h1, _⟩ := back C o hC
      exact m4.rox B j v hv C q x h1 hx
  have hx2 : Ext ρ (mkH objs0) w ρ2 (mkH objs) w := by
    refine ⟨?_, m5.ext, ?_, m5.size, m5.frame, ?_, m5.roimg, m5.tape, m5.os, m5.output⟩
    · have := m5.next
      show objs0.length ≤ objs.length
      rw [← hL.length]; exact Nat.le_refl _
    · intro B x hB
      rcases m5.dom B x hB with q | ⟨q1, q2⟩
      · exact .inl q
      · refine .inr ⟨q1, ?_⟩
        show B < objs.length
        rw [← hL.length]; exact q2
    · intro B o x hB hx
      obtain ⟨q, h1, _⟩ := back B o hB
      exact m5.img B q x h1 hx
  refine (h ρ2 w args' (ha _ _ _ m2 m3 hva) hh2 (fun B hB => ?_)).mono ?_
  · show ρ2.nm B = none
    rw [m1]; exact hoff B (by rw [hL.length]; exact hB)
  · rintro e' w' ⟨v', ρ', rfl, k1, k2, k3⟩
    rw [← hp] at k2 k3
    exact ⟨v', ρ', rfl, k1, k2, hx2.trans k3⟩
theorem onr_con (t : TS) (l n : Nat) (hl : l < 19) (F : Nat → Nat → CV) (v : AV) (hv : ren (nameIn [] 1) v = v) (h : Con Try.prog 39 [cpW t l n F, .i .i64 (Int.ofNat l)] [] v []) : Con Try.prog 39 [cpX t l n, .i .i64 (Int.ofNat l)] [some (.rows 61 3 n F)] v [.gone] := by
  have hw := cpW_frz t n F l hl
  simp only [Prod.mk.injEq] at hw
  obtain ⟨w1, w2, w3⟩ := hw
  have k2 := h.slot w2 w3 hv
  refine con_thawY k2 (us0 := [.gone]) 0 (z := .rows 3 n F) (by unfold frzOf; rw [mkH_get]; rfl) ⟨rfl, trivial⟩ (fun ρ ρ' vs hle hA hvs => ?_) rfl
  rw [← w1]
  refine thawV hle hA ?_ rfl hvs
  unfold cpX
  simp only [frzP]
  refine frzsP_set ?_ _ _ (tsL_is t)
  simp only [frzP]
  exact ⟨trivial, by omega⟩
theorem setQ_ts (s : LS) (q : List HQ) : ∀ (l : Nat) (_ : l < 19), tsL (s.set l ⟨(s.row l).h, q⟩).ts = List.set (tsL s.ts) (101 + l) (svQ q)
  | 0, _ => by kernel_rfl
  | 1, _ => by kernel_rfl
  | 2, _ => by kernel_rfl
  | 3, _ => by kernel_rfl
  | 4, _ => by kernel_rfl
  | 5, _ => by kernel_rfl
  | 6, _ => by kernel_rfl
  | 7, _ => by kernel_rfl
  | 8, _ => by kernel_rfl
  | 9, _ => by kernel_rfl
  | 10, _ => by kernel_rfl
  | 11, _ => by kernel_rfl
  | 12, _ => by kernel_rfl
  | 13, _ => by kernel_rfl
  | 14, _ => by kernel_rfl
  | 15, _ => by kernel_rfl
  | 16, _ => by kernel_rfl
  | 17, _ => by kernel_rfl
  | 18, _ => by kernel_rfl
  | l + 19, h => absurd h (by omega)
theorem VWL.set {a b : AV} (h : VW a b) : ∀ (xs : List AV) (k : Nat), VWL (xs.set k a) (xs.set k b)
  | [], k => VWL.refl _
  | x :: r, 0 => ⟨h, VWL.refl r⟩
  | x :: r, k + 1 => ⟨.refl x, VWL.set h r k⟩
theorem cpW_vw (s : LS) (q : List HQ) (l : Nat) (hl : l < 19) (n : Nat) (F : Nat → Nat → CV) (hq : VW (.sv 3 n F) (svQ q)) : VW (cpW s.ts l n F) (lsV (s.set l ⟨(s.row l).h, q⟩)) := by
  unfold cpW lsV tsV
  rw [setQ_ts s q l hl]
  exact .agg (VWL.set hq _ _)
theorem onr2_con (s : LS) (l : Nat) (hl : l < 19) (q : List HQ) (n : Nat) (F : Nat → Nat → CV) (hq : VW (.sv 3 n F) (svQ q)) (ok : (s.set l ⟨(s.row l).h, q⟩).ok) (hw : ∀ x ∈ q, 0 ≤ x.a ∧ x.a < 3) : Con Try.prog 39 [cpX s.ts l n, .i .i64 (Int.ofNat l)] [some (.rows 61 3 n F)] (lsV (s.set l (onR ⟨(s.row l).h, q⟩))) [.gone] := by
  have e : (s.set l ⟨(s.row l).h, q⟩).row l = ⟨(s.row l).h, q⟩ := by
    show (bif Nat.beq l l then _ else _) = _
    rw [nb_eq]; rfl
  have h := on_con (s.set l ⟨(s.row l).h, q⟩) ok l hl (by rw [e]; exact hw)
  rw [e, set_set] at h
  exact onr_con s.ts l n hl F _ (by kernel_rfl) (h.pre ⟨cpW_vw s q l hl n F hq, .refl _, trivial⟩)
theorem onR_stk {r : Rw} (h : Stk r) : onR r = r := by
  obtain ⟨h0, q⟩ := r
  unfold onR
  cases q with
  | nil => rfl
  | cons x q =>
    have := h x q rfl
    show goL h0 (x :: q) = _
    rw [goL_cons, this]; rfl
theorem set_self (s : LS) (l : Nat) : s.set l (s.row l) = s := by
  obtain ⟨r, row⟩ := s
  unfold LS.set
  congr 1
  funext j
  by_cases c : j = l
  · subst c
    rw [nb_eq]; rfl
  · rw [nb_ne c]; rfl
theorem hasR_eq (r : Rw) (k : Int) : hasR r k = hqQ k (hx r.h k) r.q := by
  unfold hasR fr
  exact hq_eq k (hx r.h k) r.q
theorem askR_no {r : Rw} {k m : Int} (h : ¬ hasR r k < m) : askR r k m = r := by
  obtain ⟨h0, q⟩ := r
  unfold askR
  rw [if_neg h]
theorem app_vw (q : List HQ) (k m : Int) : VW (.sv 3 (addN q.length 1) (appZ q.length (qF (qA q) (qM q) (qW q)) (listF 3 [.i .i64 k, .i .i64 m, .i .i64 0] 1))) (svQ (q ++ [⟨k, m, 0⟩])) := by
  have e : (q ++ [(⟨k, m, 0⟩ : HQ)]).length = addN q.length 1 := by rw [addN_eq]; simp
  unfold svQ svN
  rw [e]
  refine .sv fun i j hi hj => ?_
  rw [addN_eq] at hi
  rw [apq3 hj (fun _ _ => rfl) (fun j hj => listF_q _ _ _ _ j hj)]
  by_cases c : i < q.length
  · rw [if_pos c]
    apply qF_eq
    simp [List.getD_eq_getElem?_getD, List.getElem?_append, c]
  · obtain rfl : i = q.length := by omega
    rw [if_neg c]
    refine (qF_one ⟨k, m, 0⟩ j).trans (qF_eq ?_)
    simp [List.getD_eq_getElem?_getD, List.getElem?_append]
theorem up_vw (q : List HQ) (i : Nat) (k m : Int) (hi : i < q.length) (ha : q[i].a = k) (hw : q[i].w = 0) : VW (.sv 3 q.length (setRow (qF (qA q) (qM q) (qW q)) i 1 [.i .i64 m])) (svQ (q.take i ++ ⟨k, m, 0⟩ :: q.drop (i + 1))) := by
  have es : q.take i ++ (⟨k, m, 0⟩ : HQ) :: q.drop (i + 1) = q.set i ⟨k, m, 0⟩ := by rw [List.set_eq_take_append_cons_drop, if_pos hi]
  rw [es]
  have e : (q.set i (⟨k, m, 0⟩ : HQ)).length = q.length := by simp
  unfold svQ svN
  rw [e]
  refine .sv fun a j ha' hj => ?_
  by_cases c : a = i
  · subst c
    have eA : qA q a = k := by rw [qA_lt hi]; exact ha
    have eW : qW q a = 0 := by rw [qW_lt hi]; exact hw
    have g : (q.set a (⟨k, m, 0⟩ : HQ)).getD a hz = ⟨k, m, 0⟩ := by
      rw [List.getD_eq_getElem?_getD, List.getElem?_set_self hi]; rfl
    have gA : qA (q.set a (⟨k, m, 0⟩ : HQ)) a = k := by unfold qA; rw [g]
    have gM : qM (q.set a (⟨k, m, 0⟩ : HQ)) a = m := by unfold qM; rw [g]
    have gW : qW (q.set a (⟨k, m, 0⟩ : HQ)) a = 0 := by unfold qW; rw [g]
    match j, hj with
    | 0, _ =>
      show CV.i .i64 (qA q a) = .i .i64 (qA (q.set a ⟨k, m, 0⟩) a)
      rw [eA, gA]
    | 1, _ =>
      show CV.i .i64 (bif Nat.beq a a then m else qM q a) = .i .i64 (qM (q.set a ⟨k, m, 0⟩) a)
      rw [nb_eq, gM]; rfl
    | 2, _ =>
      show CV.i .i64 (qW q a) = .i .i64 (qW (q.set a ⟨k, m, 0⟩) a)
      rw [eW, gW]
  · have g : q.getD a hz = (q.set i (⟨k, m, 0⟩ : HQ)).getD a hz := by
      rw [List.getD_eq_getElem?_getD, List.getD_eq_getElem?_getD, List.getElem?_set_ne (by omega)]
    refine Eq.trans ?_ (qF_eq (i := a) (i' := a) (j := j) g)
    match j, hj with
    | 0, _ => rfl
    | 1, _ =>
      show CV.i .i64 (bif Nat.beq a i then m else qM q a) = .i .i64 (qM q a)
      rw [nb_ne c]; rfl
    | 2, _ => rfl
theorem rask_con (s : LS) (ok : s.ok) (v : vaS s = true) (l k m : Int) : Con Try.prog 16 [lsV s, .i .i64 l, .i .i64 k, .i .i64 m] [] (.tup [lsV (askS s l k m), .i .i64 (askE s l k m)]) [] := by
  have lg := rlegal_con s ok v l k
  have bad : okA s l k m = false → Con Try.prog 16 [lsV s, .i .i64 l, .i .i64 k, .i .i64 m] [] (.tup [.agg zL, .i .i64 2]) [] → Con Try.prog 16 [lsV s, .i .i64 l, .i .i64 k, .i .i64 m] [] (.tup [lsV (askS s l k m), .i .i64 (askE s l k m)]) [] := by
    intro e h0
    unfold askS askE
    rw [e]
    exact h0.post (.tup ⟨.agg zL_vw, .refl _, trivial⟩) trivial
  cases hk : isLockB l && isServerB k with
  | false =>
    rw [hk] at lg
    refine bad ?_ (con_pureX (asE_vc s.ts false l k m rfl _) rfl ⟨lg, trivial, rfl, rfl, rfl, rfl⟩)
    unfold okA
    cases h1 : isLockB l with
    | false => rfl
    | true => rw [h1] at hk; rw [show isServerB k = false from hk]; rfl
  | true =>
    rw [hk] at lg
    rw [Bool.and_eq_true] at hk
    have c1 : 0 ≤ l ∧ l < 19 := by have := hk.1; unfold isLockB at this; simpa using this
    have c2 : 0 ≤ k ∧ k < 3 := by have := hk.2; unfold isServerB at this; simpa using this
    by_cases m1 : m < 1
    · have d1 : decide (m < 1) = true := decide_eq_true m1
      have d1n : (!decide (m < 1)) = false := by rw [d1]; rfl
      refine bad ?_ (con_pureX (asF_vc s.ts true l k m rfl d1 _) rfl ⟨lg, trivial, rfl, rfl, rfl, d1n, d1n, d1, rfl⟩)
      cases e : okA s l k m with
      | false => rfl
      | true => have := (okA_iff.1 e).2.2.1; omega
    have d1 : decide (m < 1) = false := decide_eq_false m1
    have d1n : (!decide (m < 1)) = true := by rw [d1]; rfl
    by_cases m2 : 2 < m
    · have d2 : decide (2 < m) = true := decide_eq_true m2
      refine bad ?_ (con_pureX (asG_vc s.ts true l k m rfl d1 d2 _) rfl ⟨lg, trivial, rfl, rfl, rfl, d1n, d1n, d1, d2, rfl⟩)
      cases e : okA s l k m with
      | false => rfl
      | true => have := (okA_iff.1 e).2.2.1; omega
    have d2 : decide (2 < m) = false := decide_eq_false m2
    have c3 : m = 1 ∨ m = 2 := by omega
    obtain ⟨n, rfl⟩ : ∃ n : Nat, l = Int.ofNat n := ⟨l.toNat, (Int.toNat_of_nonneg c1.1).symm⟩
    have hn : n < 19 := by have := c1.2; simp at this; omega
    have e : okA s (Int.ofNat n) k m = true := okA_iff.2 ⟨c1, c2, c3, v⟩
    have rk := mayB_ok (va_row v hn)
    have eS : askS s (Int.ofNat n) k m = s.set n (onR (askR (s.row n) k m)) := by unfold askS; rw [e]; rfl
    have eE : askE s (Int.ofNat n) k m = 0 := by unfold askE; rw [e]; rfl
    rw [eS, eE]
    have kt : Int.toNat k < 3 := by omega
    have hlen : (s.row n).q.length ≤ 3 := rk.len
    have hge : hx (s.row n).h k ≤ hasR (s.row n) k := by rw [hasR_eq]; exact hqQ_ge c2 _ rk.w.1.wait
    have hqw : ∀ x ∈ (s.row n).q, 0 ≤ x.a ∧ x.a < 3 := fun x hx => (mw_iff.1 (rk.w.1.wait x hx)).1
    by_cases a1 : m ≤ hx (s.row n).h k
    · rw [askR_no (by omega), onR_stk rk.w.2, set_self]
      exact con_pureX (asA_vc s.ts true k m n hn _) (by kernel_rfl) ⟨lg, trivial, rfl, rfl, rfl, d1n, d1n, d1, d2, cp_con s.ts ok, trivial, c2, kt, decide_eq_true a1, rfl⟩
    have a0 : decide (m ≤ List.getD [TS.h s.ts n 0, TS.h s.ts n 1, TS.h s.ts n 2] (Int.toNat k) 0) = false := decide_eq_false a1
    have hfi := fi_le (s.row n).q.length (qA (s.row n).q) k
    by_cases b1 : fi (s.row n).q.length (qA (s.row n).q) k < (s.row n).q.length
    · generalize hi : fi (s.row n).q.length (qA (s.row n).q) k = i at b1
      have ii : inI (s.row n).q.length (qA (s.row n).q) k = Int.ofNat i := by unfold inI; rw [hi, if_pos b1]
      have hA : (s.row n).q[i].a = k := by
        have h5 := fi_at (n := (s.row n).q.length) (A := qA (s.row n).q) (k := k) (by rw [hi]; exact b1)
        rw [hi, qA_lt b1] at h5; exact h5
      have hW : (s.row n).q[i].w = 0 := (mw_iff.1 (rk.w.1.wait _ (List.getElem_mem b1))).2.2.2
      have hR : hasR (s.row n) k = qM (s.row n).q i := by unfold hasR fr; rw [hi, if_pos b1]
      have bi : (0 : Int) ≤ inI (s.row n).q.length (qA (s.row n).q) k ∧ inI (s.row n).q.length (qA (s.row n).q) k < ((s.ts.n n : Nat) : Int) := by
        rw [ii]; exact ⟨by simp, by show Int.ofNat i < ((s.row n).q.length : Int); simp; omega⟩
      have bt : Int.toNat (inI (s.row n).q.length (qA (s.row n).q) k) < s.ts.n n := by rw [ii]; exact b1
      have b0 : decide (inI (s.row n).q.length (qA (s.row n).q) k < 0) = false := decide_eq_false (by omega)
      have eMi : s.ts.M n (Int.toNat (inI (s.row n).q.length (qA (s.row n).q) k)) = qM (s.row n).q i := by rw [ii]; rfl
      by_cases f1 : qM (s.row n).q i < m
      · have eR : askR (s.row n) k m = ⟨(s.row n).h, (s.row n).q.take i ++ ⟨k, m, 0⟩ :: (s.row n).q.drop (i + 1)⟩ := by
          unfold askR
          rw [hR, if_pos f1]
          unfold fr to ti
          rw [hi, if_pos b1]
        rw [eR]
        have hl2 : ((s.row n).q.take i ++ (⟨k, m, 0⟩ : HQ) :: (s.row n).q.drop (i + 1)).length ≤ 1000 := by simp; omega
        have on := onr2_con s n hn ((s.row n).q.take i ++ ⟨k, m, 0⟩ :: (s.row n).q.drop (i + 1)) (s.row n).q.length (setRow (qF (qA (s.row n).q) (qM (s.row n).q) (qW (s.row n).q)) i 1 [.i .i64 m]) (up_vw _ i k m b1 hA hW) (ok.set n hl2) (fun x hx => by
          rcases List.mem_append.1 hx with h | h
          · exact hqw x (List.mem_of_mem_take h)
          · rcases List.mem_cons.1 h with rfl | h
            · exact c2
            · exact hqw x (List.mem_of_mem_drop h))
        have f0 : decide (s.ts.M n (Int.toNat (inI (s.row n).q.length (qA (s.row n).q) k)) < m) = true := by rw [eMi]; exact decide_eq_true f1
        have on' : Con Try.prog 39 [cpX s.ts n (s.ts.n n), .i .i64 (Int.ofNat n)] [some (.rows 61 3 (s.ts.n n) (setRow (qF (s.ts.A n) (s.ts.M n) (s.ts.W n)) (Int.toNat (inI (s.row n).q.length (qA (s.row n).q) k)) 1 [.i .i64 m]))] (lsV (s.set n (onR ⟨(s.row n).h, (s.row n).q.take i ++ ⟨k, m, 0⟩ :: (s.row n).q.drop (i + 1)⟩))) [.gone] := by
          rw [ii]; exact on
        exact con_pureX (asC_vc s.ts _ true (inI (s.row n).q.length (qA (s.row n).q) k) k m n hn _) (by kernel_rfl) ⟨lg, trivial, rfl, rfl, rfl, d1n, d1n, d1, d2, cpr_con s.ts ok n hn, trivial, c2, kt, a0, trivial, rin_con _ _ _ _ k (by show (s.row n).q.length ≤ _; omega), b0, trivial, bi, trivial, bt, f0, trivial, bi, trivial, bt, on', rfl⟩
      · rw [askR_no (by rw [hR]; exact f1)]
        have on := on_con s ok n hn hqw
        have f0 : decide (s.ts.M n (Int.toNat (inI (s.row n).q.length (qA (s.row n).q) k)) < m) = false := by rw [eMi]; exact decide_eq_false f1
        exact con_pureX (asD_vc s.ts _ true (inI (s.row n).q.length (qA (s.row n).q) k) k m n hn _) (by kernel_rfl) ⟨lg, trivial, rfl, rfl, rfl, d1n, d1n, d1, d2, cp_con s.ts ok, trivial, c2, kt, a0, trivial, in_con _ _ _ _ k (by show (s.row n).q.length ≤ _; omega), b0, trivial, bi, trivial, trivial, f0, on, rfl⟩
    · have ii : inI (s.row n).q.length (qA (s.row n).q) k = -1 := by unfold inI; rw [if_neg b1]
      have hR : hasR (s.row n) k = hx (s.row n).h k := by unfold hasR fr; rw [if_neg b1]
      have eR : askR (s.row n) k m = ⟨(s.row n).h, (s.row n).q ++ [⟨k, m, 0⟩]⟩ := by
        unfold askR
        rw [hR, if_pos (by omega)]
        unfold fr to ti
        rw [if_neg b1, show fi (s.row n).q.length (qA (s.row n).q) k = (s.row n).q.length by omega, List.take_length, List.drop_length]
      rw [eR]
      have hl2 : ((s.row n).q ++ [(⟨k, m, 0⟩ : HQ)]).length ≤ 1000 := by simp; omega
      have on := onr2_con s n hn ((s.row n).q ++ [⟨k, m, 0⟩]) (addN (s.row n).q.length 1) _ (app_vw _ k m) (ok.set n hl2) (fun x hx => by
        rcases List.mem_append.1 hx with h | h
        · exact hqw x h
        · simp at h; subst h; exact c2)
      have b0 : decide (inI (s.row n).q.length (qA (s.row n).q) k < 0) = true := by rw [ii]; rfl
      exact con_pureX (asB_vc s.ts _ true (inI (s.row n).q.length (qA (s.row n).q) k) k m n hn _) (by kernel_rfl) ⟨lg, trivial, rfl, rfl, rfl, d1n, d1n, d1, d2, cpr_con s.ts ok n hn, trivial, c2, kt, a0, trivial, rin_con _ _ _ _ k (by show (s.row n).q.length ≤ _; omega), b0, trivial, ⟨by omega, trivial, by show (s.row n).q.length + 1 ≤ _; omega, by show (3 * ((s.row n).q.length + 1) + 1536) * 24 ≤ _; omega⟩, trivial, on, rfl⟩
end Go.Proofs.Lk
