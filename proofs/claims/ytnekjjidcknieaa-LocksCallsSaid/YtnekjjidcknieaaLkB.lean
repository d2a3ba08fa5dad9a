/- Runs over unknown values, told by the kernel: part LkB. -/
import Derived.Test.YtnekjjidcknieaaLkA
set_option linter.unusedSimpArgs false
set_option linter.unusedVariables false
set_option maxRecDepth 40000
namespace Go.Proofs.Lk
open Go Go.Sim Go.Proofs
noncomputable def rowH (d : List AV) (t : TS) (l : Nat) : AH := ((mkH [some (tsD d t)]).new rz).upd 1 (some (rzO (t.h l) (t.n l) (t.A l) (t.M l) (t.W l)))
noncomputable def layH (t : TS) (l : Nat) (h h1 : Nat → Int) (n1 : Nat) (A1 M1 W1 : Nat → Int) : AH := ((((mkH [some (tsZ t)]).new (rwO h n1 A1 M1 W1)).upd 1 (some (rwO h1 n1 A1 M1 W1))).upd 0 (some (tsZ (t.put l h1 n1 A1 M1 W1)))).upd 0 (some (tsZ (t.put l h1 n1 A1 M1 W1)))
theorem rowOf_vc (d : List AV) (t : TS) : ∀ (l : Nat) (_ : l < 19) (K : Res → Orc → Prop), runK Try.prog 1000000 (.call 31 [.p 0 0, .i .i64 (Int.ofNat l)] (mkH [some (tsD d t)])) (Orc.c (Orc.c Orc.z)) K =
    (True ∧ True ∧ K (.rv (rwN (t.h l) (t.n l) (t.A l) (t.M l) (t.W l)) (rowH d t l)) .z)
  | 0, _, K => by kernel_rfl
  | 1, _, K => by kernel_rfl
  | 2, _, K => by kernel_rfl
  | 3, _, K => by kernel_rfl
  | 4, _, K => by kernel_rfl
  | 5, _, K => by kernel_rfl
  | 6, _, K => by kernel_rfl
  | 7, _, K => by kernel_rfl
  | 8, _, K => by kernel_rfl
  | 9, _, K => by kernel_rfl
  | 10, _, K => by kernel_rfl
  | 11, _, K => by kernel_rfl
  | 12, _, K => by kernel_rfl
  | 13, _, K => by kernel_rfl
  | 14, _, K => by kernel_rfl
  | 15, _, K => by kernel_rfl
  | 16, _, K => by kernel_rfl
  | 17, _, K => by kernel_rfl
  | 18, _, K => by kernel_rfl
  | n + 19, h, _ => absurd h (by omega)
theorem rowOf_con (t : TS) : ∀ (l : Nat) (_ : l < 19), Con Try.prog 31 [.p 0 0, .i .i64 (Int.ofNat l)] [some (tsO t)] (rwN (t.h l) (t.n l) (t.A l) (t.M l) (t.W l)) [.keep] :=
  fun l hl => con_of_run [] [] ((rowOf_vc [] t l hl _).mpr ⟨trivial, trivial, _, _, rfl, ret_is (by kernel_rfl) rfl (by kernel_rfl) (by kernel_rfl) rfl ⟨by kernel_rfl, by kernel_rfl, trivial⟩⟩)
theorem rowOfZ_con (t : TS) : ∀ (l : Nat) (_ : l < 19), Con Try.prog 31 [.p 0 0, .i .i64 (Int.ofNat l)] [some (tsZ t)] (rwN (t.h l) (t.n l) (t.A l) (t.M l) (t.W l)) [.keep] :=
  fun l hl => con_of_run [] [] ((rowOf_vc zL t l hl _).mpr ⟨trivial, trivial, _, _, rfl, ret_is (by kernel_rfl) rfl (by kernel_rfl) (by kernel_rfl) rfl ⟨by kernel_rfl, by kernel_rfl, trivial⟩⟩)
theorem lay_vc (t : TS) (h A M W : Nat → Int) (n : Nat) (h1 A1 M1 W1 : Nat → Int) (n1 : Nat) : ∀ (l : Nat) (_ : l < 19) (K : Res → Orc → Prop), runK Try.prog 1000000 (.call 30 [.p 0 0, .i .i64 (Int.ofNat l), rwN h n A M W] (mkH [some (tsZ t)])) (Orc.cal [] (rwN h1 n1 A1 M1 W1) [] (Orc.c (Orc.c Orc.z))) K =
    (Con Try.prog 44 [rwN h n A M W] [] (rwN h1 n1 A1 M1 W1) [] ∧ True ∧ True ∧ True ∧ True ∧ K (.rv (.tup []) (layH t l h h1 n1 A1 M1 W1)) .z)
  | 0, _, K => by kernel_rfl
  | 1, _, K => by kernel_rfl
  | 2, _, K => by kernel_rfl
  | 3, _, K => by kernel_rfl
  | 4, _, K => by kernel_rfl
  | 5, _, K => by kernel_rfl
  | 6, _, K => by kernel_rfl
  | 7, _, K => by kernel_rfl
  | 8, _, K => by kernel_rfl
  | 9, _, K => by kernel_rfl
  | 10, _, K => by kernel_rfl
  | 11, _, K => by kernel_rfl
  | 12, _, K => by kernel_rfl
  | 13, _, K => by kernel_rfl
  | 14, _, K => by kernel_rfl
  | 15, _, K => by kernel_rfl
  | 16, _, K => by kernel_rfl
  | 17, _, K => by kernel_rfl
  | 18, _, K => by kernel_rfl
  | n + 19, h, _ => absurd h (by omega)
theorem lay_con (t : TS) (r : Rw) (hq : r.q.length ≤ 1000) (ho : qok r.q) (l : Nat) (hl : l < 19) : Con Try.prog 30 [.p 0 0, .i .i64 (Int.ofNat l), rwV r] [some (tsZ t)] (.tup []) [.set (tsZ (t.put l (onR r).h (onR r).q.length (qA (onR r).q) (qM (onR r).q) (qW (onR r).q)))] :=
  con_of_run [] [] ((lay_vc t r.h (qA r.q) (qM r.q) (qW r.q) r.q.length _ _ _ _ _ l hl _).mpr ⟨goneOn_con r hq ho, trivial, trivial, trivial, trivial, _, _, rfl, ret_is (by kernel_rfl) rfl (by kernel_rfl) (by kernel_rfl) rfl ⟨by kernel_rfl, by kernel_rfl, trivial⟩⟩)
set_option maxRecDepth 20000
theorem copied_vc (t : TS) (V : AV) : runK Try.prog 1000000 (.call 29 [tsV t] (mkH [])) (Orc.c (Orc.cal [] (AV.agg [AV.i .i64 (Rs.x (TS.r t) 2), isv (Rs.mn (TS.r t)) (Rs.mf (TS.r t)), isv (Rs.sn (TS.r t)) (Rs.sf (TS.r t))]) [] (Orc.inl (oc 3 (Orc.cal [] (AV.agg [AV.i .i64 (Mb.x (Rs.s (TS.r t) 0) 8), isv (Mb.mn (Rs.s (TS.r t) 0)) (Mb.mf (Rs.s (TS.r t) 0)), isv (Mb.sn (Rs.s (TS.r t) 0)) (Mb.sf (Rs.s (TS.r t) 0))]) [] (Orc.cal [] (svN (Mb.hn (Rs.s (TS.r t) 0)) (Mb.hA (Rs.s (TS.r t) 0)) (Mb.hM (Rs.s (TS.r t) 0)) (Mb.hW (Rs.s (TS.r t) 0))) [] (Orc.cal [] (svN (Mb.dn (Rs.s (TS.r t) 0)) (Mb.dA (Rs.s (TS.r t) 0)) (Mb.dM (Rs.s (TS.r t) 0)) (Mb.dW (Rs.s (TS.r t) 0))) [] (Orc.inl (oc 3 (Orc.cal [] (AV.agg [AV.i .i64 (Mb.x (Rs.s (TS.r t) 1) 8), isv (Mb.mn (Rs.s (TS.r t) 1)) (Mb.mf (Rs.s (TS.r t) 1)), isv (Mb.sn (Rs.s (TS.r t) 1)) (Mb.sf (Rs.s (TS.r t) 1))]) [] (Orc.cal [] (svN (Mb.hn (Rs.s (TS.r t)
  1)) (Mb.hA (Rs.s (TS.r t) 1)) (Mb.hM (Rs.s (TS.r t) 1)) (Mb.hW (Rs.s (TS.r t) 1))) [] (Orc.cal [] (svN (Mb.dn (Rs.s (TS.r t) 1)) (Mb.dA (Rs.s (TS.r t) 1)) (Mb.dM (Rs.s (TS.r t) 1)) (Mb.dW (Rs.s (TS.r t) 1))) [] (Orc.inl (oc 3 (Orc.cal [] (AV.agg [AV.i .i64 (Mb.x (Rs.s (TS.r t) 2) 8), isv (Mb.mn (Rs.s (TS.r t) 2)) (Mb.mf (Rs.s (TS.r t) 2)), isv (Mb.sn (Rs.s (TS.r t) 2)) (Mb.sf (Rs.s (TS.r t) 2))]) [] (Orc.cal [] (svN (Mb.hn (Rs.s (TS.r t) 2)) (Mb.hA (Rs.s (TS.r t) 2)) (Mb.hM (Rs.s (TS.r t) 2)) (Mb.hW (Rs.s (TS.r t) 2))) [] (Orc.cal [] (svN (Mb.dn (Rs.s (TS.r t) 2)) (Mb.dA (Rs.s (TS.r t) 2)) (Mb.dM (Rs.s (TS.r t) 2)) (Mb.dW (Rs.s (TS.r t) 2))) [] (Orc.inl (Orc.c (Orc.inl (oc 2 (Orc.cal [] (svN (TS.n t 0) (TS.A t (nat_lit 0)) (TS.M t (nat_lit 0)) (TS.W t (nat_lit 0))) [] (Orc.c (Orc.inl (oc 2 (Orc.cal [] (svN (TS.n t 1) (TS.A t (nat_lit 1)) (TS.M t (nat_lit 1)) (TS.W t (nat_lit 1))) []
  (Orc.c (Orc.inl (oc 2 (Orc.cal [] (svN (TS.n t 2) (TS.A t (nat_lit 2)) (TS.M t (nat_lit 2)) (TS.W t (nat_lit 2))) [] (Orc.c (Orc.inl (oc 2 (Orc.cal [] (svN (TS.n t 3) (TS.A t (nat_lit 3)) (TS.M t (nat_lit 3)) (TS.W t (nat_lit 3))) [] (Orc.c (Orc.inl (oc 2 (Orc.cal [] (svN (TS.n t 4) (TS.A t (nat_lit 4)) (TS.M t (nat_lit 4)) (TS.W t (nat_lit 4))) [] (Orc.c (Orc.inl (oc 2 (Orc.cal [] (svN (TS.n t 5) (TS.A t (nat_lit 5)) (TS.M t (nat_lit 5)) (TS.W t (nat_lit 5))) [] (Orc.c (Orc.inl (oc 2 (Orc.cal [] (svN (TS.n t 6) (TS.A t (nat_lit 6)) (TS.M t (nat_lit 6)) (TS.W t (nat_lit 6))) [] (Orc.c (Orc.inl (oc 2 (Orc.cal [] (svN (TS.n t 7) (TS.A t (nat_lit 7)) (TS.M t (nat_lit 7)) (TS.W t (nat_lit 7))) [] (Orc.c (Orc.inl (oc 2 (Orc.cal [] (svN (TS.n t 8) (TS.A t (nat_lit 8)) (TS.M t (nat_lit 8)) (TS.W t (nat_lit 8))) [] (Orc.c (Orc.inl (oc 2 (Orc.cal [] (svN (TS.n t 9) (TS.A t (nat_lit 9)) (TS.M t
  (nat_lit 9)) (TS.W t (nat_lit 9))) [] (Orc.c (Orc.inl (oc 2 (Orc.cal [] (svN (TS.n t 10) (TS.A t (nat_lit 10)) (TS.M t (nat_lit 10)) (TS.W t (nat_lit 10))) [] (Orc.c (Orc.inl (oc 2 (Orc.cal [] (svN (TS.n t 11) (TS.A t (nat_lit 11)) (TS.M t (nat_lit 11)) (TS.W t (nat_lit 11))) [] (Orc.c (Orc.inl (oc 2 (Orc.cal [] (svN (TS.n t 12) (TS.A t (nat_lit 12)) (TS.M t (nat_lit 12)) (TS.W t (nat_lit 12))) [] (Orc.c (Orc.inl (oc 2 (Orc.cal [] (svN (TS.n t 13) (TS.A t (nat_lit 13)) (TS.M t (nat_lit 13)) (TS.W t (nat_lit 13))) [] (Orc.c (Orc.inl (oc 2 (Orc.cal [] (svN (TS.n t 14) (TS.A t (nat_lit 14)) (TS.M t (nat_lit 14)) (TS.W t (nat_lit 14))) [] (Orc.c (Orc.inl (oc 2 (Orc.cal [] (svN (TS.n t 15) (TS.A t (nat_lit 15)) (TS.M t (nat_lit 15)) (TS.W t (nat_lit 15))) [] (Orc.c (Orc.inl (oc 2 (Orc.cal [] (svN (TS.n t 16) (TS.A t (nat_lit 16)) (TS.M t (nat_lit 16)) (TS.W t (nat_lit 16))) [] (Orc.c
  (Orc.inl (oc 2 (Orc.cal [] (svN (TS.n t 17) (TS.A t (nat_lit 17)) (TS.M t (nat_lit 17)) (TS.W t (nat_lit 17))) [] (Orc.c (Orc.inl (oc 2 (Orc.cal [] (svN (TS.n t 18) (TS.A t (nat_lit 18)) (TS.M t (nat_lit 18)) (TS.W t (nat_lit 18))) [] (Orc.c (Orc.inl (Orc.c Orc.z))))))))))))))))))))))))))))))))))))))))))))))))))))))))))))))))))))))))))))))))))))))))))))))))) (fun r _ => rvIs V r) = (True ∧ Con Try.prog 41 [AV.agg [AV.i .i64 (Rs.x (TS.r t) 2), isv (Rs.mn (TS.r t)) (Rs.mf (TS.r t)), isv (Rs.sn (TS.r t)) (Rs.sf (TS.r t))]] [] (AV.agg [AV.i .i64 (Rs.x (TS.r t) 2), isv (Rs.mn (TS.r t)) (Rs.mf (TS.r t)), isv (Rs.sn (TS.r t)) (Rs.sf (TS.r t))]) [] ∧ True ∧ True ∧ True ∧ True ∧ True ∧ True ∧ Con Try.prog 41 [AV.agg [AV.i .i64 (Mb.x (Rs.s (TS.r t) 0) 8), isv (Mb.mn (Rs.s (TS.r t) 0)) (Mb.mf (Rs.s (TS.r t) 0)), isv (Mb.sn (Rs.s (TS.r t) 0)) (Mb.sf (Rs.s (TS.r t) 0))]] [] (AV.agg [AV.i .i64 (Mb.x
  (Rs.s (TS.r t) 0) 8), isv (Mb.mn (Rs.s (TS.r t) 0)) (Mb.mf (Rs.s (TS.r t) 0)), isv (Mb.sn (Rs.s (TS.r t) 0)) (Mb.sf (Rs.s (TS.r t) 0))]) [] ∧ True ∧ True ∧ True ∧ Con Try.prog 42 [svN (Mb.hn (Rs.s (TS.r t) 0)) (Mb.hA (Rs.s (TS.r t) 0)) (Mb.hM (Rs.s (TS.r t) 0)) (Mb.hW (Rs.s (TS.r t) 0))] [] (svN (Mb.hn (Rs.s (TS.r t) 0)) (Mb.hA (Rs.s (TS.r t) 0)) (Mb.hM (Rs.s (TS.r t) 0)) (Mb.hW (Rs.s (TS.r t) 0))) [] ∧ True ∧ True ∧ True ∧ Con Try.prog 43 [svN (Mb.dn (Rs.s (TS.r t) 0)) (Mb.dA (Rs.s (TS.r t) 0)) (Mb.dM (Rs.s (TS.r t) 0)) (Mb.dW (Rs.s (TS.r t) 0))] [] (svN (Mb.dn (Rs.s (TS.r t) 0)) (Mb.dA (Rs.s (TS.r t) 0)) (Mb.dM (Rs.s (TS.r t) 0)) (Mb.dW (Rs.s (TS.r t) 0))) [] ∧ True ∧ ((-9223372036854775808 : Int) ≤ (1 : Int) ∧ (1 : Int) ≤ (9223372036854775807 : Int)) ∧ True ∧ True ∧ True ∧ True ∧ Con Try.prog 41 [AV.agg [AV.i .i64 (Mb.x (Rs.s (TS.r t) 1) 8), isv (Mb.mn (Rs.s (TS.r t) 1)) (Mb.mf (Rs.s
  (TS.r t) 1)), isv (Mb.sn (Rs.s (TS.r t) 1)) (Mb.sf (Rs.s (TS.r t) 1))]] [] (AV.agg [AV.i .i64 (Mb.x (Rs.s (TS.r t) 1) 8), isv (Mb.mn (Rs.s (TS.r t) 1)) (Mb.mf (Rs.s (TS.r t) 1)), isv (Mb.sn (Rs.s (TS.r t) 1)) (Mb.sf (Rs.s (TS.r t) 1))]) [] ∧ True ∧ True ∧ True ∧ Con Try.prog 42 [svN (Mb.hn (Rs.s (TS.r t) 1)) (Mb.hA (Rs.s (TS.r t) 1)) (Mb.hM (Rs.s (TS.r t) 1)) (Mb.hW (Rs.s (TS.r t) 1))] [] (svN (Mb.hn (Rs.s (TS.r t) 1)) (Mb.hA (Rs.s (TS.r t) 1)) (Mb.hM (Rs.s (TS.r t) 1)) (Mb.hW (Rs.s (TS.r t) 1))) [] ∧ True ∧ True ∧ True ∧ Con Try.prog 43 [svN (Mb.dn (Rs.s (TS.r t) 1)) (Mb.dA (Rs.s (TS.r t) 1)) (Mb.dM (Rs.s (TS.r t) 1)) (Mb.dW (Rs.s (TS.r t) 1))] [] (svN (Mb.dn (Rs.s (TS.r t) 1)) (Mb.dA (Rs.s (TS.r t) 1)) (Mb.dM (Rs.s (TS.r t) 1)) (Mb.dW (Rs.s (TS.r t) 1))) [] ∧ True ∧ ((-9223372036854775808 : Int) ≤ (2 : Int) ∧ (2 : Int) ≤ (9223372036854775807 : Int)) ∧ True ∧ True ∧ True ∧ True ∧ Con
  Try.prog 41 [AV.agg [AV.i .i64 (Mb.x (Rs.s (TS.r t) 2) 8), isv (Mb.mn (Rs.s (TS.r t) 2)) (Mb.mf (Rs.s (TS.r t) 2)), isv (Mb.sn (Rs.s (TS.r t) 2)) (Mb.sf (Rs.s (TS.r t) 2))]] [] (AV.agg [AV.i .i64 (Mb.x (Rs.s (TS.r t) 2) 8), isv (Mb.mn (Rs.s (TS.r t) 2)) (Mb.mf (Rs.s (TS.r t) 2)), isv (Mb.sn (Rs.s (TS.r t) 2)) (Mb.sf (Rs.s (TS.r t) 2))]) [] ∧ True ∧ True ∧ True ∧ Con Try.prog 42 [svN (Mb.hn (Rs.s (TS.r t) 2)) (Mb.hA (Rs.s (TS.r t) 2)) (Mb.hM (Rs.s (TS.r t) 2)) (Mb.hW (Rs.s (TS.r t) 2))] [] (svN (Mb.hn (Rs.s (TS.r t) 2)) (Mb.hA (Rs.s (TS.r t) 2)) (Mb.hM (Rs.s (TS.r t) 2)) (Mb.hW (Rs.s (TS.r t) 2))) [] ∧ True ∧ True ∧ True ∧ Con Try.prog 43 [svN (Mb.dn (Rs.s (TS.r t) 2)) (Mb.dA (Rs.s (TS.r t) 2)) (Mb.dM (Rs.s (TS.r t) 2)) (Mb.dW (Rs.s (TS.r t) 2))] [] (svN (Mb.dn (Rs.s (TS.r t) 2)) (Mb.dA (Rs.s (TS.r t) 2)) (Mb.dM (Rs.s (TS.r t) 2)) (Mb.dW (Rs.s (TS.r t) 2))) [] ∧ True ∧
  ((-9223372036854775808 : Int) ≤ (3 : Int) ∧ (3 : Int) ≤ (9223372036854775807 : Int)) ∧ True ∧ Con Try.prog 42 [svN (TS.n t 0) (TS.A t (nat_lit 0)) (TS.M t (nat_lit 0)) (TS.W t (nat_lit 0))] [] (svN (TS.n t 0) (TS.A t (nat_lit 0)) (TS.M t (nat_lit 0)) (TS.W t (nat_lit 0))) [] ∧ True ∧ ((-9223372036854775808 : Int) ≤ (1 : Int) ∧ (1 : Int) ≤ (9223372036854775807 : Int)) ∧ Con Try.prog 42 [svN (TS.n t 1) (TS.A t (nat_lit 1)) (TS.M t (nat_lit 1)) (TS.W t (nat_lit 1))] [] (svN (TS.n t 1) (TS.A t (nat_lit 1)) (TS.M t (nat_lit 1)) (TS.W t (nat_lit 1))) [] ∧ True ∧ ((-9223372036854775808 : Int) ≤ (2 : Int) ∧ (2 : Int) ≤ (9223372036854775807 : Int)) ∧ Con Try.prog 42 [svN (TS.n t 2) (TS.A t (nat_lit 2)) (TS.M t (nat_lit 2)) (TS.W t (nat_lit 2))] [] (svN (TS.n t 2) (TS.A t (nat_lit 2)) (TS.M t (nat_lit 2)) (TS.W t (nat_lit 2))) [] ∧ True ∧ ((-9223372036854775808 : Int) ≤ (3 : Int) ∧ (3 : Int) ≤
  (9223372036854775807 : Int)) ∧ Con Try.prog 42 [svN (TS.n t 3) (TS.A t (nat_lit 3)) (TS.M t (nat_lit 3)) (TS.W t (nat_lit 3))] [] (svN (TS.n t 3) (TS.A t (nat_lit 3)) (TS.M t (nat_lit 3)) (TS.W t (nat_lit 3))) [] ∧ True ∧ ((-9223372036854775808 : Int) ≤ (4 : Int) ∧ (4 : Int) ≤ (9223372036854775807 : Int)) ∧ Con Try.prog 42 [svN (TS.n t 4) (TS.A t (nat_lit 4)) (TS.M t (nat_lit 4)) (TS.W t (nat_lit 4))] [] (svN (TS.n t 4) (TS.A t (nat_lit 4)) (TS.M t (nat_lit 4)) (TS.W t (nat_lit 4))) [] ∧ True ∧ ((-9223372036854775808 : Int) ≤ (5 : Int) ∧ (5 : Int) ≤ (9223372036854775807 : Int)) ∧ Con Try.prog 42 [svN (TS.n t 5) (TS.A t (nat_lit 5)) (TS.M t (nat_lit 5)) (TS.W t (nat_lit 5))] [] (svN (TS.n t 5) (TS.A t (nat_lit 5)) (TS.M t (nat_lit 5)) (TS.W t (nat_lit 5))) [] ∧ True ∧ ((-9223372036854775808 : Int) ≤ (6 : Int) ∧ (6 : Int) ≤ (9223372036854775807 : Int)) ∧ Con Try.prog 42 [svN (TS.n t 6)
  (TS.A t (nat_lit 6)) (TS.M t (nat_lit 6)) (TS.W t (nat_lit 6))] [] (svN (TS.n t 6) (TS.A t (nat_lit 6)) (TS.M t (nat_lit 6)) (TS.W t (nat_lit 6))) [] ∧ True ∧ ((-9223372036854775808 : Int) ≤ (7 : Int) ∧ (7 : Int) ≤ (9223372036854775807 : Int)) ∧ Con Try.prog 42 [svN (TS.n t 7) (TS.A t (nat_lit 7)) (TS.M t (nat_lit 7)) (TS.W t (nat_lit 7))] [] (svN (TS.n t 7) (TS.A t (nat_lit 7)) (TS.M t (nat_lit 7)) (TS.W t (nat_lit 7))) [] ∧ True ∧ ((-9223372036854775808 : Int) ≤ (8 : Int) ∧ (8 : Int) ≤ (9223372036854775807 : Int)) ∧ Con Try.prog 42 [svN (TS.n t 8) (TS.A t (nat_lit 8)) (TS.M t (nat_lit 8)) (TS.W t (nat_lit 8))] [] (svN (TS.n t 8) (TS.A t (nat_lit 8)) (TS.M t (nat_lit 8)) (TS.W t (nat_lit 8))) [] ∧ True ∧ ((-9223372036854775808 : Int) ≤ (9 : Int) ∧ (9 : Int) ≤ (9223372036854775807 : Int)) ∧ Con Try.prog 42 [svN (TS.n t 9) (TS.A t (nat_lit 9)) (TS.M t (nat_lit 9)) (TS.W t (nat_lit 9))]
  [] (svN (TS.n t 9) (TS.A t (nat_lit 9)) (TS.M t (nat_lit 9)) (TS.W t (nat_lit 9))) [] ∧ True ∧ ((-9223372036854775808 : Int) ≤ (10 : Int) ∧ (10 : Int) ≤ (9223372036854775807 : Int)) ∧ Con Try.prog 42 [svN (TS.n t 10) (TS.A t (nat_lit 10)) (TS.M t (nat_lit 10)) (TS.W t (nat_lit 10))] [] (svN (TS.n t 10) (TS.A t (nat_lit 10)) (TS.M t (nat_lit 10)) (TS.W t (nat_lit 10))) [] ∧ True ∧ ((-9223372036854775808 : Int) ≤ (11 : Int) ∧ (11 : Int) ≤ (9223372036854775807 : Int)) ∧ Con Try.prog 42 [svN (TS.n t 11) (TS.A t (nat_lit 11)) (TS.M t (nat_lit 11)) (TS.W t (nat_lit 11))] [] (svN (TS.n t 11) (TS.A t (nat_lit 11)) (TS.M t (nat_lit 11)) (TS.W t (nat_lit 11))) [] ∧ True ∧ ((-9223372036854775808 : Int) ≤ (12 : Int) ∧ (12 : Int) ≤ (9223372036854775807 : Int)) ∧ Con Try.prog 42 [svN (TS.n t 12) (TS.A t (nat_lit 12)) (TS.M t (nat_lit 12)) (TS.W t (nat_lit 12))] [] (svN (TS.n t 12) (TS.A t (nat_lit
  12)) (TS.M t (nat_lit 12)) (TS.W t (nat_lit 12))) [] ∧ True ∧ ((-9223372036854775808 : Int) ≤ (13 : Int) ∧ (13 : Int) ≤ (9223372036854775807 : Int)) ∧ Con Try.prog 42 [svN (TS.n t 13) (TS.A t (nat_lit 13)) (TS.M t (nat_lit 13)) (TS.W t (nat_lit 13))] [] (svN (TS.n t 13) (TS.A t (nat_lit 13)) (TS.M t (nat_lit 13)) (TS.W t (nat_lit 13))) [] ∧ True ∧ ((-9223372036854775808 : Int) ≤ (14 : Int) ∧ (14 : Int) ≤ (9223372036854775807 : Int)) ∧ Con Try.prog 42 [svN (TS.n t 14) (TS.A t (nat_lit 14)) (TS.M t (nat_lit 14)) (TS.W t (nat_lit 14))] [] (svN (TS.n t 14) (TS.A t (nat_lit 14)) (TS.M t (nat_lit 14)) (TS.W t (nat_lit 14))) [] ∧ True ∧ ((-9223372036854775808 : Int) ≤ (15 : Int) ∧ (15 : Int) ≤ (9223372036854775807 : Int)) ∧ Con Try.prog 42 [svN (TS.n t 15) (TS.A t (nat_lit 15)) (TS.M t (nat_lit 15)) (TS.W t (nat_lit 15))] [] (svN (TS.n t 15) (TS.A t (nat_lit 15)) (TS.M t (nat_lit 15)) (TS.W t
  (nat_lit 15))) [] ∧ True ∧ ((-9223372036854775808 : Int) ≤ (16 : Int) ∧ (16 : Int) ≤ (9223372036854775807 : Int)) ∧ Con Try.prog 42 [svN (TS.n t 16) (TS.A t (nat_lit 16)) (TS.M t (nat_lit 16)) (TS.W t (nat_lit 16))] [] (svN (TS.n t 16) (TS.A t (nat_lit 16)) (TS.M t (nat_lit 16)) (TS.W t (nat_lit 16))) [] ∧ True ∧ ((-9223372036854775808 : Int) ≤ (17 : Int) ∧ (17 : Int) ≤ (9223372036854775807 : Int)) ∧ Con Try.prog 42 [svN (TS.n t 17) (TS.A t (nat_lit 17)) (TS.M t (nat_lit 17)) (TS.W t (nat_lit 17))] [] (svN (TS.n t 17) (TS.A t (nat_lit 17)) (TS.M t (nat_lit 17)) (TS.W t (nat_lit 17))) [] ∧ True ∧ ((-9223372036854775808 : Int) ≤ (18 : Int) ∧ (18 : Int) ≤ (9223372036854775807 : Int)) ∧ Con Try.prog 42 [svN (TS.n t 18) (TS.A t (nat_lit 18)) (TS.M t (nat_lit 18)) (TS.W t (nat_lit 18))] [] (svN (TS.n t 18) (TS.A t (nat_lit 18)) (TS.M t (nat_lit 18)) (TS.W t (nat_lit 18))) [] ∧ True ∧
  ((-9223372036854775808 : Int) ≤ (19 : Int) ∧ (19 : Int) ≤ (9223372036854775807 : Int)) ∧ (AV.agg [AV.i .i64 (Rs.x (TS.r t) 0), AV.i .i64 (Rs.x (TS.r t) 1), AV.i .i64 (Rs.x (TS.r t) 2), AV.sv 1 (Rs.mn (TS.r t)) fun i x => CV.i .i64 (Rs.mf (TS.r t) i), AV.sv 1 (Rs.sn (TS.r t)) fun i x => CV.i .i64 (Rs.sf (TS.r t) i), AV.i .i64 (Mb.x (Rs.s (TS.r t) 0) 0), AV.i .i64 (Mb.x (Rs.s (TS.r t) 0) 1), AV.i .i64 (Mb.x (Rs.s (TS.r t) 0) 2), AV.i .i64 (Mb.x (Rs.s (TS.r t) 0) 3), AV.i .i64 (Mb.x (Rs.s (TS.r t) 0) 4), AV.i .i64 (Mb.x (Rs.s (TS.r t) 0) 5), AV.i .i64 (Mb.x (Rs.s (TS.r t) 0) 6), AV.i .i64 (Mb.x (Rs.s (TS.r t) 0) 7), AV.i .i64 (Mb.x (Rs.s (TS.r t) 0) 8), AV.sv 1 (Mb.mn (Rs.s (TS.r t) 0)) fun i x => CV.i .i64 (Mb.mf (Rs.s (TS.r t) 0) i), AV.sv 1 (Mb.sn (Rs.s (TS.r t) 0)) fun i x => CV.i .i64 (Mb.sf (Rs.s (TS.r t) 0) i), AV.sv 3 (Mb.hn (Rs.s (TS.r t) 0)) (qF (Mb.hA (Rs.s (TS.r t) 0)) (Mb.hM
  (Rs.s (TS.r t) 0)) (Mb.hW (Rs.s (TS.r t) 0))), AV.sv 3 (Mb.dn (Rs.s (TS.r t) 0)) (qF (Mb.dA (Rs.s (TS.r t) 0)) (Mb.dM (Rs.s (TS.r t) 0)) (Mb.dW (Rs.s (TS.r t) 0))), AV.i .i64 (Mb.x (Rs.s (TS.r t) 1) 0), AV.i .i64 (Mb.x (Rs.s (TS.r t) 1) 1), AV.i .i64 (Mb.x (Rs.s (TS.r t) 1) 2), AV.i .i64 (Mb.x (Rs.s (TS.r t) 1) 3), AV.i .i64 (Mb.x (Rs.s (TS.r t) 1) 4), AV.i .i64 (Mb.x (Rs.s (TS.r t) 1) 5), AV.i .i64 (Mb.x (Rs.s (TS.r t) 1) 6), AV.i .i64 (Mb.x (Rs.s (TS.r t) 1) 7), AV.i .i64 (Mb.x (Rs.s (TS.r t) 1) 8), AV.sv 1 (Mb.mn (Rs.s (TS.r t) 1)) fun i x => CV.i .i64 (Mb.mf (Rs.s (TS.r t) 1) i), AV.sv 1 (Mb.sn (Rs.s (TS.r t) 1)) fun i x => CV.i .i64 (Mb.sf (Rs.s (TS.r t) 1) i), AV.sv 3 (Mb.hn (Rs.s (TS.r t) 1)) (qF (Mb.hA (Rs.s (TS.r t) 1)) (Mb.hM (Rs.s (TS.r t) 1)) (Mb.hW (Rs.s (TS.r t) 1))), AV.sv 3 (Mb.dn (Rs.s (TS.r t) 1)) (qF (Mb.dA (Rs.s (TS.r t) 1)) (Mb.dM (Rs.s (TS.r t) 1)) (Mb.dW (Rs.s
  (TS.r t) 1))), AV.i .i64 (Mb.x (Rs.s (TS.r t) 2) 0), AV.i .i64 (Mb.x (Rs.s (TS.r t) 2) 1), AV.i .i64 (Mb.x (Rs.s (TS.r t) 2) 2), AV.i .i64 (Mb.x (Rs.s (TS.r t) 2) 3), AV.i .i64 (Mb.x (Rs.s (TS.r t) 2) 4), AV.i .i64 (Mb.x (Rs.s (TS.r t) 2) 5), AV.i .i64 (Mb.x (Rs.s (TS.r t) 2) 6), AV.i .i64 (Mb.x (Rs.s (TS.r t) 2) 7), AV.i .i64 (Mb.x (Rs.s (TS.r t) 2) 8), AV.sv 1 (Mb.mn (Rs.s (TS.r t) 2)) fun i x => CV.i .i64 (Mb.mf (Rs.s (TS.r t) 2) i), AV.sv 1 (Mb.sn (Rs.s (TS.r t) 2)) fun i x => CV.i .i64 (Mb.sf (Rs.s (TS.r t) 2) i), AV.sv 3 (Mb.hn (Rs.s (TS.r t) 2)) (qF (Mb.hA (Rs.s (TS.r t) 2)) (Mb.hM (Rs.s (TS.r t) 2)) (Mb.hW (Rs.s (TS.r t) 2))), AV.sv 3 (Mb.dn (Rs.s (TS.r t) 2)) (qF (Mb.dA (Rs.s (TS.r t) 2)) (Mb.dM (Rs.s (TS.r t) 2)) (Mb.dW (Rs.s (TS.r t) 2))), AV.i .i64 (TS.h t 0 0), AV.i .i64 (TS.h t 0 1), AV.i .i64 (TS.h t 0 2), AV.i .i64 (TS.h t 1 0), AV.i .i64 (TS.h t 1 1), AV.i .i64 (TS.h t
  1 2), AV.i .i64 (TS.h t 2 0), AV.i .i64 (TS.h t 2 1), AV.i .i64 (TS.h t 2 2), AV.i .i64 (TS.h t 3 0), AV.i .i64 (TS.h t 3 1), AV.i .i64 (TS.h t 3 2), AV.i .i64 (TS.h t 4 0), AV.i .i64 (TS.h t 4 1), AV.i .i64 (TS.h t 4 2), AV.i .i64 (TS.h t 5 0), AV.i .i64 (TS.h t 5 1), AV.i .i64 (TS.h t 5 2), AV.i .i64 (TS.h t 6 0), AV.i .i64 (TS.h t 6 1), AV.i .i64 (TS.h t 6 2), AV.i .i64 (TS.h t 7 0), AV.i .i64 (TS.h t 7 1), AV.i .i64 (TS.h t 7 2), AV.i .i64 (TS.h t 8 0), AV.i .i64 (TS.h t 8 1), AV.i .i64 (TS.h t 8 2), AV.i .i64 (TS.h t 9 0), AV.i .i64 (TS.h t 9 1), AV.i .i64 (TS.h t 9 2), AV.i .i64 (TS.h t 10 0), AV.i .i64 (TS.h t 10 1), AV.i .i64 (TS.h t 10 2), AV.i .i64 (TS.h t 11 0), AV.i .i64 (TS.h t 11 1), AV.i .i64 (TS.h t 11 2), AV.i .i64 (TS.h t 12 0), AV.i .i64 (TS.h t 12 1), AV.i .i64 (TS.h t 12 2), AV.i .i64 (TS.h t 13 0), AV.i .i64 (TS.h t 13 1), AV.i .i64 (TS.h t 13 2), AV.i .i64 (TS.h t
  14 0), AV.i .i64 (TS.h t 14 1), AV.i .i64 (TS.h t 14 2), AV.i .i64 (TS.h t 15 0), AV.i .i64 (TS.h t 15 1), AV.i .i64 (TS.h t 15 2), AV.i .i64 (TS.h t 16 0), AV.i .i64 (TS.h t 16 1), AV.i .i64 (TS.h t 16 2), AV.i .i64 (TS.h t 17 0), AV.i .i64 (TS.h t 17 1), AV.i .i64 (TS.h t 17 2), AV.i .i64 (TS.h t 18 0), AV.i .i64 (TS.h t 18 1), AV.i .i64 (TS.h t 18 2), AV.sv 3 (TS.n t 0) (qF (TS.A t (nat_lit 0)) (TS.M t (nat_lit 0)) (TS.W t (nat_lit 0))), AV.sv 3 (TS.n t 1) (qF (TS.A t (nat_lit 1)) (TS.M t (nat_lit 1)) (TS.W t (nat_lit 1))), AV.sv 3 (TS.n t 2) (qF (TS.A t (nat_lit 2)) (TS.M t (nat_lit 2)) (TS.W t (nat_lit 2))), AV.sv 3 (TS.n t 3) (qF (TS.A t (nat_lit 3)) (TS.M t (nat_lit 3)) (TS.W t (nat_lit 3))), AV.sv 3 (TS.n t 4) (qF (TS.A t (nat_lit 4)) (TS.M t (nat_lit 4)) (TS.W t (nat_lit 4))), AV.sv 3 (TS.n t 5) (qF (TS.A t (nat_lit 5)) (TS.M t (nat_lit 5)) (TS.W t (nat_lit 5))), AV.sv 3 (TS.n
  t 6) (qF (TS.A t (nat_lit 6)) (TS.M t (nat_lit 6)) (TS.W t (nat_lit 6))), AV.sv 3 (TS.n t 7) (qF (TS.A t (nat_lit 7)) (TS.M t (nat_lit 7)) (TS.W t (nat_lit 7))), AV.sv 3 (TS.n t 8) (qF (TS.A t (nat_lit 8)) (TS.M t (nat_lit 8)) (TS.W t (nat_lit 8))), AV.sv 3 (TS.n t 9) (qF (TS.A t (nat_lit 9)) (TS.M t (nat_lit 9)) (TS.W t (nat_lit 9))), AV.sv 3 (TS.n t 10) (qF (TS.A t (nat_lit 10)) (TS.M t (nat_lit 10)) (TS.W t (nat_lit 10))), AV.sv 3 (TS.n t 11) (qF (TS.A t (nat_lit 11)) (TS.M t (nat_lit 11)) (TS.W t (nat_lit 11))), AV.sv 3 (TS.n t 12) (qF (TS.A t (nat_lit 12)) (TS.M t (nat_lit 12)) (TS.W t (nat_lit 12))), AV.sv 3 (TS.n t 13) (qF (TS.A t (nat_lit 13)) (TS.M t (nat_lit 13)) (TS.W t (nat_lit 13))), AV.sv 3 (TS.n t 14) (qF (TS.A t (nat_lit 14)) (TS.M t (nat_lit 14)) (TS.W t (nat_lit 14))), AV.sv 3 (TS.n t 15) (qF (TS.A t (nat_lit 15)) (TS.M t (nat_lit 15)) (TS.W t (nat_lit 15))), AV.sv 3
  (TS.n t 16) (qF (TS.A t (nat_lit 16)) (TS.M t (nat_lit 16)) (TS.W t (nat_lit 16))), AV.sv 3 (TS.n t 17) (qF (TS.A t (nat_lit 17)) (TS.M t (nat_lit 17)) (TS.W t (nat_lit 17))), AV.sv 3 (TS.n t 18) (qF (TS.A t (nat_lit 18)) (TS.M t (nat_lit 18)) (TS.W t (nat_lit 18)))]) = V) := by kernel_rfl
theorem tsV_below (t : TS) : below 0 (tsV t) = true := by kernel_rfl
theorem copied_con (t : TS) (ok : t.ok) : Con Try.prog 29 [tsV t] [] (tsV t) [] := by
  obtain ⟨m1, m2⟩ := ok.m
  refine con_pureX (copied_vc t (tsV t)) (tsV_below t) ?_
  exact ⟨trivial, cfg_con _ _ _ _ _ m1 m2, trivial, trivial, trivial, trivial, trivial, trivial, cfg_con _ _ _ _ _ (ok.s _).1 (ok.s _).2.1, trivial, trivial, trivial, cl42_con _ _ _ _ (ok.s _).2.2.1, trivial, trivial, trivial, cl43_con _ _ _ _ (ok.s _).2.2.2, trivial, ⟨by decide, by decide⟩, trivial, trivial, trivial, trivial, cfg_con _ _ _ _ _ (ok.s _).1 (ok.s _).2.1, trivial, trivial, trivial, cl42_con _ _ _ _ (ok.s _).2.2.1, trivial, trivial, trivial, cl43_con _ _ _ _ (ok.s _).2.2.2, trivial, ⟨by decide, by decide⟩, trivial, trivial, trivial, trivial, cfg_con _ _ _ _ _ (ok.s _).1 (ok.s _).2.1, trivial, trivial, trivial, cl42_con _ _ _ _ (ok.s _).2.2.1, trivial, trivial, trivial, cl43_con _ _ _ _ (ok.s _).2.2.2, trivial, ⟨by decide, by decide⟩, trivial, cl42_con _ _ _ _ (ok.q _), trivial, ⟨by decide, by decide⟩, cl42_con _ _ _ _ (ok.q _), trivial, ⟨by decide, by decide⟩, cl42_con _ _ _ _ (ok.q _), trivial, ⟨by decide, by decide⟩, cl42_con _ _ _ _ (ok.q _), trivial, ⟨by decide, by decide⟩, cl42_con _ _ _ _ (ok.q _), trivial, ⟨by decide, by decide⟩, cl42_con _ _ _ _ (ok.q _), trivial, ⟨by decide, by decide⟩, cl42_con _ _ _ _ (ok.q _), trivial, ⟨by decide, by decide⟩, cl42_con _ _ _ _ (ok.q _), trivial, ⟨by decide, by decide⟩, cl42_con _ _ _ _ (ok.q _), trivial, ⟨by decide, by decide⟩, cl42_con _ _ _ _ (ok.q _), trivial, ⟨by decide, by decide⟩, cl42_con _ _ _ _ (ok.q _), trivial, ⟨by decide, by decide⟩, cl42_con _ _ _ _ (ok.q _), trivial, ⟨by decide, by decide⟩, cl42_con _ _ _ _ (ok.q _), trivial, ⟨by decide, by decide⟩, cl42_con _ _ _ _ (ok.q _), trivial, ⟨by decide, by decide⟩, cl42_con _ _ _ _ (ok.q _), trivial, ⟨by decide, by decide⟩, cl42_con _ _ _ _ (ok.q _), trivial, ⟨by decide, by decide⟩, cl42_con _ _ _ _ (ok.q _), trivial, ⟨by decide, by decide⟩, cl42_con _ _ _ _ (ok.q _), trivial, ⟨by decide, by decide⟩, cl42_con _ _ _ _ (ok.q _), trivial, ⟨by decide, by decide⟩, by kernel_rfl⟩
set_option maxRecDepth 20000
theorem vaR_vc (t : TS) (mb : Nat → Bool) (l : Nat) (h1 : decide (Int.ofNat l < 19) = true) (K : Res → Orc → Prop) : runK Try.prog 1000000 (.code (loopAt Try.prog 13 0) 12 (mkT [(1, .p 0 0), (4, .i .i64 (Int.ofNat l))]) (mkH [some (tsO t)])) (Orc.t (Orc.cal [0] (rwN (TS.h t l) (TS.n t l) (TS.A t l) (TS.M t l) (TS.W t l)) [Upd.keep] (Orc.cal [] (AV.b (mb l)) [] (Orc.s Orc.z Orc.z)))) K = (decide (Int.ofNat l < 19) = true ∧ Con Try.prog 31 [AV.p 0 0, AV.i .i64 (Int.ofNat l)] [some (tsO t)] (rwN (TS.h t l) (TS.n t l) (TS.A t l) (TS.M t l) (TS.W t l)) [Upd.keep] ∧ Con Try.prog 34 [rwN (TS.h t l) (TS.n t l) (TS.A t l) (TS.M t l) (TS.W t l)] [] (AV.b (mb l)) [] ∧ True ∧ ((!mb l) = true → K (Res.st XO.ret (z0 (z1 (AV.p 0 0) (z1 (AV.i .i64 (Int.ofNat l)) (zl (AV.i .i64 (Int.ofNat l))) T.e) (z1 (AV.b (decide (Int.ofNat l < 19))) (zl (AV.b (mb l))) T.e)) (z1 (AV.b false) (z1 (AV.i .i64 (Int.ofNat
  l)) (zl (AV.agg [AV.i .i64 (TS.h t l 0), AV.i .i64 (TS.h t l 1), AV.i .i64 (TS.h t l 2), AV.sv 3 (TS.n t l) (qF (TS.A t l) (TS.M t l) (TS.W t l))])) T.e) (z1 (AV.i .i64 (Int.ofNat l)) (zl (AV.b !mb l)) T.e))) (mkH [some (tsO t)])) Orc.z) ∧ ((!mb l) = false → ((-9223372036854775808) ≤ Int.ofNat l + 1 ∧ Int.ofNat l + (1 : Int) ≤ (9223372036854775807 : Int)) ∧ K (Res.st XO.nrm (z0 (z1 (AV.p 0 0) (z1 (AV.i .i64 (Int.ofNat l)) (zl (AV.i .i64 (Int.ofNat l))) (zl (AV.i .i64 (Int.ofNat l + 1)))) (z1 (AV.b (decide (Int.ofNat l < 19))) (zl (AV.b (mb l))) T.e)) (z0 (z1 (AV.i .i64 (Int.ofNat l + 1)) (zl (AV.agg [AV.i .i64 (TS.h t l 0), AV.i .i64 (TS.h t l 1), AV.i .i64 (TS.h t l 2), AV.sv 3 (TS.n t l) (qF (TS.A t l) (TS.M t l) (TS.W t l))])) T.e) (z1 (AV.i .i64 (Int.ofNat l)) (zl (AV.b !mb l)) T.e))) (mkH [some (tsO t)])) Orc.z)) := by kernel_rfl
theorem vaE_vc (t : TS) (K : Res → Orc → Prop) : runK Try.prog 1000000 (.code (loopAt Try.prog 13 0) 12 (mkT [(1, .p 0 0), (4, .i .i64 19)]) (mkH [some (tsO t)])) (Orc.c Orc.z) K = (K (Res.st (XO.exit 0) (z0 (z1 (AV.p 0 0) T.e (zl (AV.b false))) (z0 (zl (AV.i .i64 19)) T.e)) (mkH [some (tsO t)])) Orc.z) := by kernel_rfl
theorem vaF_vc (t : TS) (V : AV) : runK Try.prog 1000000 (.call 13 [tsV t] (mkH [])) (Orc.c (Orc.lop [0] [1, 4] 1 XO.ret [(2, AV.b false)] [some (tsO t)] Orc.z)) (fun r _ => rvIs V r) = (LDoes Try.prog (loopAt Try.prog 13 0) 12 1 (mkT [(1, AV.p 0 0), (4, AV.i .i64 0)]) [some (tsO t)] XO.ret (mkT [(2, AV.b false)]) [some (tsO t)] ∧ (AV.b false) = V) := by kernel_rfl
theorem vaT_vc (t : TS) (V : AV) : runK Try.prog 1000000 (.call 13 [tsV t] (mkH [])) (Orc.c (Orc.lop [0] [1, 4] 1 (XO.exit 0) [(1, AV.p 0 0)] [some (tsO t)] Orc.z)) (fun r _ => rvIs V r) = (LDoes Try.prog (loopAt Try.prog 13 0) 12 1 (mkT [(1, AV.p 0 0), (4, AV.i .i64 0)]) [some (tsO t)] (XO.exit 0) (mkT [(1, AV.p 0 0)]) [some (tsO t)] ∧ (AV.b true) = V) := by kernel_rfl
theorem askO_vc (t : TS) (t1 : TS) (lk : Int → Bool) (sv : Int → Bool) (ws : Int → Bool) (vl : Bool) (ah : Nat → Int) (an : Nat) (aA : Nat → Int) (aM : Nat → Int) (aW : Nat → Int) (l : Nat) (k m : Int) (h1 : lk (Int.ofNat l) = true) (h2 : sv k = true) (h3 : ws m = true) (h4 : vl = true) (V : AV) : runK Try.prog 1000000 (.call 10 [tsV t, .i .i64 (Int.ofNat l), .i .i64 k, .i .i64 m] (mkH [])) (Orc.c (Orc.cal [] (AV.b (lk (Int.ofNat l))) [] (Orc.t (Orc.t (Orc.cal [] (AV.b (sv k)) [] (Orc.t (Orc.f (Orc.t (Orc.t (Orc.cal [] (AV.b (ws m)) [] (Orc.t (Orc.f (Orc.t (Orc.t (Orc.cal [] (AV.b vl) [] (Orc.t (Orc.f (Orc.f (Orc.cal [] (tsV t) [] (Orc.cal [2] (rwN (TS.h t l) (TS.n t l) (TS.A t l) (TS.M t l) (TS.W t l)) [Upd.keep] (Orc.cal [] (rwN ah an aA aM aW) [] (Orc.cal [2] (AV.tup []) [Upd.set (tsZ t1)] Orc.z)))))))))))))))))))))) (fun r _ => rvIs V r) = (Con Try.prog 26 [AV.i .i64 (Int.ofNat l)]
  [] (AV.b (lk (Int.ofNat l))) [] ∧ True ∧ (!!lk (Int.ofNat l)) = true ∧ (!!lk (Int.ofNat l)) = true ∧ Con Try.prog 27 [AV.i .i64 k] [] (AV.b (sv k)) [] ∧ (!!lk (Int.ofNat l)) = true ∧ True ∧ (!lk (Int.ofNat l)) = false ∧ (!!sv k) = true ∧ (!!sv k) = true ∧ Con Try.prog 28 [AV.i .i64 m] [] (AV.b (ws m)) [] ∧ (!!sv k) = true ∧ True ∧ (!sv k) = false ∧ (!!ws m) = true ∧ (!!ws m) = true ∧ Con Try.prog 13 [tsV t] [] (AV.b vl) [] ∧ (!!ws m) = true ∧ True ∧ (!ws m) = false ∧ (!vl) = false ∧ Con Try.prog 29 [tsV t] [] (tsV t) [] ∧ Con Try.prog 31 [AV.p 0 0, AV.i .i64 (Int.ofNat l)] [some (tsZ t)] (rwN (TS.h t l) (TS.n t l) (TS.A t l) (TS.M t l) (TS.W t l)) [Upd.keep] ∧ Con Try.prog 32 [rwN (TS.h t l) (TS.n t l) (TS.A t l) (TS.M t l) (TS.W t l), AV.i .i64 k, AV.i .i64 m] [] (rwN ah an aA aM aW) [] ∧ Con Try.prog 30 [AV.p 0 0, AV.i .i64 (Int.ofNat l), rwN ah an aA aM aW] [some (tsZ t)] (AV.tup [])
  [Upd.set (tsZ t1)] ∧ (AV.tup [tsV t1, AV.i .i64 0]) = V) := by kernel_rfl
theorem askN0_vc (t : TS) (lk : Int → Bool) (l k m : Int) (h0 : lk l = false) (V : AV) : runK Try.prog 1000000 (.call 10 [tsV t, .i .i64 l, .i .i64 k, .i .i64 m] (mkH [])) (Orc.c (Orc.cal [] (AV.b (lk l)) [] (Orc.f (Orc.f (Orc.f (Orc.t (oc 9 Orc.z))))))) (fun r _ => rvIs V r) = (Con Try.prog 26 [AV.i .i64 l] [] (AV.b (lk l)) [] ∧ True ∧ (!!lk l) = false ∧ (!!lk l) = false ∧ (!!lk l) = false ∧ (!lk l) = true ∧ (AV.tup [AV.agg zL, AV.i .i64 2]) = V) := by kernel_rfl
theorem askN1_vc (t : TS) (lk : Int → Bool) (sv : Int → Bool) (l k m : Int) (h0 : lk l = true) (h1 : sv k = false) (V : AV) : runK Try.prog 1000000 (.call 10 [tsV t, .i .i64 l, .i .i64 k, .i .i64 m] (mkH [])) (Orc.c (Orc.cal [] (AV.b (lk l)) [] (Orc.t (Orc.t (Orc.cal [] (AV.b (sv k)) [] (Orc.t (Orc.f (Orc.f (Orc.f (Orc.f (Orc.t (oc 5 Orc.z)))))))))))) (fun r _ => rvIs V r) = (Con Try.prog 26 [AV.i .i64 l] [] (AV.b (lk l)) [] ∧ True ∧ (!!lk l) = true ∧ (!!lk l) = true ∧ Con Try.prog 27 [AV.i .i64 k] [] (AV.b (sv k)) [] ∧ (!!lk l) = true ∧ True ∧ (!lk l) = false ∧ (!!sv k) = false ∧ (!!sv k) = false ∧ (!!sv k) = false ∧ (!sv k) = true ∧ (AV.tup [AV.agg zL, AV.i .i64 2]) = V) := by kernel_rfl
theorem askN2_vc (t : TS) (lk : Int → Bool) (sv : Int → Bool) (ws : Int → Bool) (l k m : Int) (h0 : lk l = true) (h1 : sv k = true) (h2 : ws m = false) (V : AV) : runK Try.prog 1000000 (.call 10 [tsV t, .i .i64 l, .i .i64 k, .i .i64 m] (mkH [])) (Orc.c (Orc.cal [] (AV.b (lk l)) [] (Orc.t (Orc.t (Orc.cal [] (AV.b (sv k)) [] (Orc.t (Orc.f (Orc.t (Orc.t (Orc.cal [] (AV.b (ws m)) [] (Orc.t (Orc.f (Orc.f (Orc.f (Orc.f (Orc.t (Orc.c Orc.z))))))))))))))))) (fun r _ => rvIs V r) = (Con Try.prog 26 [AV.i .i64 l] [] (AV.b (lk l)) [] ∧ True ∧ (!!lk l) = true ∧ (!!lk l) = true ∧ Con Try.prog 27 [AV.i .i64 k] [] (AV.b (sv k)) [] ∧ (!!lk l) = true ∧ True ∧ (!lk l) = false ∧ (!!sv k) = true ∧ (!!sv k) = true ∧ Con Try.prog 28 [AV.i .i64 m] [] (AV.b (ws m)) [] ∧ (!!sv k) = true ∧ True ∧ (!sv k) = false ∧ (!!ws m) = false ∧ (!!ws m) = false ∧ (!!ws m) = false ∧ (!ws m) = true ∧ (AV.tup [AV.agg zL, AV.i
  .i64 2]) = V) := by kernel_rfl
theorem askN3_vc (t : TS) (lk : Int → Bool) (sv : Int → Bool) (ws : Int → Bool) (vl : Bool) (l k m : Int) (h0 : lk l = true) (h1 : sv k = true) (h2 : ws m = true) (h3 : vl = false) (V : AV) : runK Try.prog 1000000 (.call 10 [tsV t, .i .i64 l, .i .i64 k, .i .i64 m] (mkH [])) (Orc.c (Orc.cal [] (AV.b (lk l)) [] (Orc.t (Orc.t (Orc.cal [] (AV.b (sv k)) [] (Orc.t (Orc.f (Orc.t (Orc.t (Orc.cal [] (AV.b (ws m)) [] (Orc.t (Orc.f (Orc.t (Orc.t (Orc.cal [] (AV.b vl) [] (Orc.t (Orc.f (Orc.t Orc.z)))))))))))))))))) (fun r _ => rvIs V r) = (Con Try.prog 26 [AV.i .i64 l] [] (AV.b (lk l)) [] ∧ True ∧ (!!lk l) = true ∧ (!!lk l) = true ∧ Con Try.prog 27 [AV.i .i64 k] [] (AV.b (sv k)) [] ∧ (!!lk l) = true ∧ True ∧ (!lk l) = false ∧ (!!sv k) = true ∧ (!!sv k) = true ∧ Con Try.prog 28 [AV.i .i64 m] [] (AV.b (ws m)) [] ∧ (!!sv k) = true ∧ True ∧ (!sv k) = false ∧ (!!ws m) = true ∧ (!!ws m) = true ∧ Con
  Try.prog 13 [tsV t] [] (AV.b vl) [] ∧ (!!ws m) = true ∧ True ∧ (!ws m) = false ∧ (!vl) = true ∧ (AV.tup [AV.agg zL, AV.i .i64 2]) = V) := by kernel_rfl
theorem freeO_vc (t : TS) (t1 : TS) (lk : Int → Bool) (sv : Int → Bool) (vl : Bool) (ah : Nat → Int) (an : Nat) (aA : Nat → Int) (aM : Nat → Int) (aW : Nat → Int) (l : Nat) (k : Int) (h1 : lk (Int.ofNat l) = true) (h2 : sv k = true) (h4 : vl = true) (V : AV) : runK Try.prog 1000000 (.call 11 [tsV t, .i .i64 (Int.ofNat l), .i .i64 k] (mkH [])) (Orc.c (Orc.cal [] (AV.b (lk (Int.ofNat l))) [] (Orc.t (Orc.t (Orc.cal [] (AV.b (sv k)) [] (Orc.t (Orc.f (Orc.t (Orc.t (Orc.cal [] (AV.b vl) [] (Orc.t (Orc.f (Orc.f (Orc.cal [] (tsV t) [] (Orc.cal [2] (rwN (TS.h t l) (TS.n t l) (TS.A t l) (TS.M t l) (TS.W t l)) [Upd.keep] (Orc.cal [] (rwN ah an aA aM aW) [] (Orc.cal [2] (AV.tup []) [Upd.set (tsZ t1)] Orc.z))))))))))))))))) (fun r _ => rvIs V r) = (Con Try.prog 26 [AV.i .i64 (Int.ofNat l)] [] (AV.b (lk (Int.ofNat l))) [] ∧ True ∧ (!!lk (Int.ofNat l)) = true ∧ (!!lk (Int.ofNat l)) = true ∧ Con
  Try.prog 27 [AV.i .i64 k] [] (AV.b (sv k)) [] ∧ (!!lk (Int.ofNat l)) = true ∧ True ∧ (!lk (Int.ofNat l)) = false ∧ (!!sv k) = true ∧ (!!sv k) = true ∧ Con Try.prog 13 [tsV t] [] (AV.b vl) [] ∧ (!!sv k) = true ∧ True ∧ (!sv k) = false ∧ (!vl) = false ∧ Con Try.prog 29 [tsV t] [] (tsV t) [] ∧ Con Try.prog 31 [AV.p 0 0, AV.i .i64 (Int.ofNat l)] [some (tsZ t)] (rwN (TS.h t l) (TS.n t l) (TS.A t l) (TS.M t l) (TS.W t l)) [Upd.keep] ∧ Con Try.prog 33 [rwN (TS.h t l) (TS.n t l) (TS.A t l) (TS.M t l) (TS.W t l), AV.i .i64 k] [] (rwN ah an aA aM aW) [] ∧ Con Try.prog 30 [AV.p 0 0, AV.i .i64 (Int.ofNat l), rwN ah an aA aM aW] [some (tsZ t)] (AV.tup []) [Upd.set (tsZ t1)] ∧ (AV.tup [tsV t1, AV.i .i64 0]) = V) := by kernel_rfl
theorem freeN0_vc (t : TS) (lk : Int → Bool) (l k : Int) (h0 : lk l = false) (V : AV) : runK Try.prog 1000000 (.call 11 [tsV t, .i .i64 l, .i .i64 k] (mkH [])) (Orc.c (Orc.cal [] (AV.b (lk l)) [] (Orc.f (Orc.f (Orc.f (Orc.t (oc 5 Orc.z))))))) (fun r _ => rvIs V r) = (Con Try.prog 26 [AV.i .i64 l] [] (AV.b (lk l)) [] ∧ True ∧ (!!lk l) = false ∧ (!!lk l) = false ∧ (!!lk l) = false ∧ (!lk l) = true ∧ (AV.tup [AV.agg zL, AV.i .i64 2]) = V) := by kernel_rfl
theorem freeN1_vc (t : TS) (lk : Int → Bool) (sv : Int → Bool) (l k : Int) (h0 : lk l = true) (h1 : sv k = false) (V : AV) : runK Try.prog 1000000 (.call 11 [tsV t, .i .i64 l, .i .i64 k] (mkH [])) (Orc.c (Orc.cal [] (AV.b (lk l)) [] (Orc.t (Orc.t (Orc.cal [] (AV.b (sv k)) [] (Orc.t (Orc.f (Orc.f (Orc.f (Orc.f (Orc.t (Orc.c Orc.z)))))))))))) (fun r _ => rvIs V r) = (Con Try.prog 26 [AV.i .i64 l] [] (AV.b (lk l)) [] ∧ True ∧ (!!lk l) = true ∧ (!!lk l) = true ∧ Con Try.prog 27 [AV.i .i64 k] [] (AV.b (sv k)) [] ∧ (!!lk l) = true ∧ True ∧ (!lk l) = false ∧ (!!sv k) = false ∧ (!!sv k) = false ∧ (!!sv k) = false ∧ (!sv k) = true ∧ (AV.tup [AV.agg zL, AV.i .i64 2]) = V) := by kernel_rfl
theorem freeN2_vc (t : TS) (lk : Int → Bool) (sv : Int → Bool) (vl : Bool) (l k : Int) (h0 : lk l = true) (h1 : sv k = true) (h2 : vl = false) (V : AV) : runK Try.prog 1000000 (.call 11 [tsV t, .i .i64 l, .i .i64 k] (mkH [])) (Orc.c (Orc.cal [] (AV.b (lk l)) [] (Orc.t (Orc.t (Orc.cal [] (AV.b (sv k)) [] (Orc.t (Orc.f (Orc.t (Orc.t (Orc.cal [] (AV.b vl) [] (Orc.t (Orc.f (Orc.t Orc.z))))))))))))) (fun r _ => rvIs V r) = (Con Try.prog 26 [AV.i .i64 l] [] (AV.b (lk l)) [] ∧ True ∧ (!!lk l) = true ∧ (!!lk l) = true ∧ Con Try.prog 27 [AV.i .i64 k] [] (AV.b (sv k)) [] ∧ (!!lk l) = true ∧ True ∧ (!lk l) = false ∧ (!!sv k) = true ∧ (!!sv k) = true ∧ Con Try.prog 13 [tsV t] [] (AV.b vl) [] ∧ (!!sv k) = true ∧ True ∧ (!sv k) = false ∧ (!vl) = true ∧ (AV.tup [AV.agg zL, AV.i .i64 2]) = V) := by kernel_rfl
theorem mayB_con (s : LS) (ok : s.ok) (l : Nat) : Con Try.prog 34 [rwN (s.ts.h l) (s.ts.n l) (s.ts.A l) (s.ts.M l) (s.ts.W l)] [] (.b (mayB (s.row l))) [] :=
  mayBe_con _ _ _ _ _ (by have := ok.q l; omega)
theorem vaN_s (s : LS) (m l : Nat) : vaN s (m + 1) l = (mayB (s.row l) && vaN s m (l + 1)) := rfl
theorem vaF_lp (s : LS) (ok : s.ok) (h : vaS s = false) : LDoes Try.prog (loopAt Try.prog 13 0) 12 1 (mkT [(1, .p 0 0), (4, .i .i64 0)]) [some (tsO s.ts)] .ret (mkT [(2, .b false)]) [some (tsO s.ts)] := by
  refine loop_ind (fun l : Nat => ([(1, .p 0 0), (4, .i .i64 (Int.ofNat l))], [some (tsO s.ts)])) (fun l => 19 - l) (fun l => l ≤ 19 ∧ vaN s (19 - l) l = false) ?_ 0 ⟨Nat.zero_le _, h⟩
  intro l ⟨hl, hf⟩
  refine ⟨Nat.le_refl _, ?_⟩
  have hlt : l < 19 := by
    apply Classical.byContradiction
    intro c
    rw [show 19 - l = 0 by omega] at hf
    cases hf
  have h1 : decide (Int.ofNat l < 19) = true := by simp <;> omega
  rw [show 19 - l = (19 - (l + 1)) + 1 by omega, vaN_s] at hf
  refine ⟨_, _, (vaR_vc s.ts (fun l => mayB (s.row l)) l h1 _).mpr ⟨h1, rowOf_con _ _ hlt, mayB_con s ok l, trivial, fun h2 => ?_, fun h2 => ⟨⟨by simp <;> omega, by simp <;> omega⟩, ?_⟩⟩⟩
  · exact .inr ⟨[0], [], _, _, rfl, by simp, st_k [0] (by kernel_rfl)⟩
  · refine .inl ⟨l + 1, [0], [], _, _, ⟨by omega, ?_⟩, (by show 19 - (l + 1) < 19 - l; omega), rfl, st_k [0] (by kernel_rfl)⟩
    simp at h2
    simpa [h2] using hf
theorem vaT_lp (s : LS) (ok : s.ok) (h : vaS s = true) : LDoes Try.prog (loopAt Try.prog 13 0) 12 1 (mkT [(1, .p 0 0), (4, .i .i64 0)]) [some (tsO s.ts)] (.exit 0) (mkT [(1, .p 0 0)]) [some (tsO s.ts)] := by
  refine loop_ind (fun l : Nat => ([(1, .p 0 0), (4, .i .i64 (Int.ofNat l))], [some (tsO s.ts)])) (fun l => 19 - l) (fun l => l ≤ 19 ∧ vaN s (19 - l) l = true) ?_ 0 ⟨Nat.zero_le _, h⟩
  intro l ⟨hl, hf⟩
  refine ⟨Nat.le_refl _, ?_⟩
  by_cases e : l = 19
  · subst e
    exact ⟨_, _, (vaE_vc s.ts _).mpr (.inr ⟨[0], [], _, _, rfl, by simp, st_k [0] (by kernel_rfl)⟩)⟩
  · have h1 : decide (Int.ofNat l < 19) = true := by simp <;> omega
    rw [show 19 - l = (19 - (l + 1)) + 1 by omega, vaN_s] at hf
    simp only [Bool.and_eq_true] at hf
    refine ⟨_, _, (vaR_vc s.ts (fun l => mayB (s.row l)) l h1 _).mpr ⟨h1, rowOf_con _ _ (by omega), mayB_con s ok l, trivial, fun h2 => ?_, fun h2 => ⟨⟨by simp <;> omega, by simp <;> omega⟩, ?_⟩⟩⟩
    · simp [hf.1] at h2
    · exact .inl ⟨l + 1, [0], [], _, _, ⟨by omega, hf.2⟩, (by show 19 - (l + 1) < 19 - l; omega), rfl, st_k [0] (by kernel_rfl)⟩
theorem valid_con (s : LS) (ok : s.ok) : Con Try.prog 13 [lsV s] [] (.b (vaS s)) [] := by
  cases h : vaS s with
  | false => exact con_pureX (vaF_vc s.ts _) rfl ⟨vaF_lp s ok h, rfl⟩
  | true => exact con_pureX (vaT_vc s.ts _) rfl ⟨vaT_lp s ok h, rfl⟩
theorem vaN_all (s : LS) : ∀ m l, vaN s m l = true → ∀ j, l ≤ j → j < l + m → mayB (s.row j) = true
  | 0, l, h, j, a, b => absurd b (by omega)
  | m + 1, l, h, j, a, b => by
    rw [vaN_s, Bool.and_eq_true] at h
    by_cases e : j = l
    · subst e; exact h.1
    · exact vaN_all s m (l + 1) h.2 j (by omega) (by omega)
theorem va_row {s : LS} (h : vaS s = true) {l : Nat} (hl : l < 19) : mayB (s.row l) = true := vaN_all s 19 0 h l (Nat.zero_le _) (by omega)
theorem qmB_all (h : Nat → Int) (n : Nat) (A M W : Nat → Int) : ∀ m i, qmB h n A M W m i = true → ∀ j, i ≤ j → j < i + m → mayWaitB h (A j) (M j) (W j) = true ∧ fi n A (A j) = j
  | 0, i, _, j, a, b => absurd b (by omega)
  | m + 1, i, q, j, a, b => by
    rw [qmB_s] at q
    simp only [Bool.and_eq_true, decide_eq_true_eq] at q
    by_cases e : j = i
    · subst e; exact ⟨q.1, q.2.1⟩
    · exact qmB_all h n A M W m (i + 1) q.2.2 j (by omega) (by omega)
structure RowOk (r : Rw) : Prop where
  hm : hmB r.h = true
  wait : ∀ i (h : i < r.q.length), mayWaitB r.h (r.q[i]).a (r.q[i]).m (r.q[i]).w = true
  once : ∀ i j (h : i < r.q.length) (h' : j < r.q.length), (r.q[i]).a = (r.q[j]).a → i = j
  stuck : ∀ x q, r.q = x :: q → canB r.h x.a x.m = false
theorem mayB_ok {r : Rw} (h : mayB r = true) : RowOk r := by
  unfold mayB mayBeB at h
  simp only [Bool.and_eq_true, Bool.not_eq_true'] at h
  obtain ⟨h1, h2, h3⟩ := h
  have hq := qmB_all _ _ _ _ _ _ _ h2
  refine ⟨h1, fun i hi => ?_, fun i j hi hj e => ?_, fun x q e => ?_⟩
  · have := (hq i (Nat.zero_le _) (by omega)).1
    rwa [qA_lt hi, show qM r.q i = r.q[i].m by unfold qM; rw [List.getD_eq_getElem?_getD, List.getElem?_eq_getElem hi]; rfl, show qW r.q i = r.q[i].w by unfold qW; rw [List.getD_eq_getElem?_getD, List.getElem?_eq_getElem hi]; rfl] at this
  · have a := (hq i (Nat.zero_le _) (by omega)).2
    have b := (hq j (Nat.zero_le _) (by omega)).2
    rw [qA_lt hi] at a
    rw [qA_lt hj, ← e] at b
    omega
  · simp only [e] at h3
    simpa [fcB, qA, qM] using h3
theorem RowOk.qok {r : Rw} (h : RowOk r) : qok r.q := by
  intro x hx
  obtain ⟨i, hi, rfl⟩ := List.getElem_of_mem hx
  have := h.wait i hi
  unfold mayWaitB isServerB at this
  simp only [Bool.and_eq_true, decide_eq_true_eq] at this
  exact this.1
theorem RowOk.len {r : Rw} (h : RowOk r) : r.q.length ≤ 3 := by
  apply Classical.byContradiction
  intro c
  have b0 := h.qok _ (List.getElem_mem (l := r.q) (n := 0) (by omega))
  have b1 := h.qok _ (List.getElem_mem (l := r.q) (n := 1) (by omega))
  have b2 := h.qok _ (List.getElem_mem (l := r.q) (n := 2) (by omega))
  have b3 := h.qok _ (List.getElem_mem (l := r.q) (n := 3) (by omega))
  have d01 : (r.q[0]'(by omega)).a ≠ (r.q[1]'(by omega)).a := fun e => absurd (h.once 0 1 (by omega) (by omega) e) (by decide)
  have d02 : (r.q[0]'(by omega)).a ≠ (r.q[2]'(by omega)).a := fun e => absurd (h.once 0 2 (by omega) (by omega) e) (by decide)
  have d03 : (r.q[0]'(by omega)).a ≠ (r.q[3]'(by omega)).a := fun e => absurd (h.once 0 3 (by omega) (by omega) e) (by decide)
  have d12 : (r.q[1]'(by omega)).a ≠ (r.q[2]'(by omega)).a := fun e => absurd (h.once 1 2 (by omega) (by omega) e) (by decide)
  have d13 : (r.q[1]'(by omega)).a ≠ (r.q[3]'(by omega)).a := fun e => absurd (h.once 1 3 (by omega) (by omega) e) (by decide)
  have d23 : (r.q[2]'(by omega)).a ≠ (r.q[3]'(by omega)).a := fun e => absurd (h.once 2 3 (by omega) (by omega) e) (by decide)
  omega
theorem askR_ok {r : Rw} (h : RowOk r) {k : Int} (m : Int) (hk : 0 ≤ k ∧ k < 3) : (askR r k m).q.length ≤ 1000 ∧ qok (askR r k m).q := by
  have h1 := h.len
  unfold askR
  split
  · refine ⟨by simp; omega, fun x hx => ?_⟩
    simp only [List.mem_append, List.mem_cons] at hx
    rcases hx with hx | rfl | hx
    · exact h.qok x (List.mem_of_mem_take hx)
    · exact hk
    · exact h.qok x (List.mem_of_mem_drop hx)
  · exact ⟨by simp; omega, h.qok⟩
theorem freeR_ok {r : Rw} (h : RowOk r) (k : Int) : (freeR r k).q.length ≤ 1000 ∧ qok (freeR r k).q := by
  have h1 := h.len
  unfold freeR
  refine ⟨by simp; omega, fun x hx => ?_⟩
  simp only [List.mem_append] at hx
  rcases hx with hx | hx
  · exact h.qok x (List.mem_of_mem_take hx)
  · exact h.qok x (List.mem_of_mem_drop hx)
theorem set_ts (s : LS) (l : Nat) (r : Rw) : (s.set l r).ts = s.ts.put l r.h r.q.length (qA r.q) (qM r.q) (qW r.q) := by
  unfold LS.set LS.ts TS.put
  simp only [TS.mk.injEq, true_and]
  refine ⟨?_, ?_, ?_, ?_, ?_⟩ <;> (funext j; cases Nat.beq j l <;> rfl)
theorem zL_eq : zL = [.i .i64 0, .i .i64 0, .i .i64 0, .l0, .l0, .i .i64 0, .i .i64 0, .i .i64 0, .i .i64 0, .i .i64 0, .i .i64 0, .i .i64 0, .i .i64 0, .i .i64 0, .l0, .l0, .l0, .l0, .i .i64 0, .i .i64 0, .i .i64 0, .i .i64 0, .i .i64 0, .i .i64 0, .i .i64 0, .i .i64 0, .i .i64 0, .l0, .l0, .l0, .l0, .i .i64 0, .i .i64 0, .i .i64 0, .i .i64 0, .i .i64 0, .i .i64 0, .i .i64 0, .i .i64 0, .i .i64 0, .l0, .l0, .l0, .l0, .i .i64 0, .i .i64 0, .i .i64 0, .i .i64 0, .i .i64 0, .i .i64 0, .i .i64 0, .i .i64 0, .i .i64 0, .i .i64 0, .i .i64 0, .i .i64 0, .i .i64 0, .i .i64 0, .i .i64 0, .i .i64 0, .i .i64 0, .i .i64 0, .i .i64 0, .i .i64 0, .i .i64 0, .i .i64 0, .i .i64 0, .i .i64 0, .i .i64 0, .i .i64 0, .i .i64 0, .i .i64 0, .i .i64 0, .i .i64 0, .i .i64 0, .i .i64 0, .i .i64 0, .i .i64 0, .i .i64 0, .i .i64 0, .i .i64 0, .i .i64 0, .i .i64 0, .i .i64 0, .i .i64 0, .i .i64 0, .i .i64 0, .i .i64 0, .i .i64 0, .i .i64 0, .i .i64 0, .i .i64 0, .i .i64 0, .i .i64 0, .i .i64 0, .i .i64 0, .i .i64 0, .i .i64 0, .i .i64 0, .i .i64 0, .i .i64 0, .l0, .l0, .l0, .l0, .l0, .l0, .l0, .l0, .l0, .l0, .l0, .l0, .l0, .l0, .l0, .l0, .l0, .l0, .l0] := by kernel_rfl
theorem tsz_eq : tsL zS.ts = [.i .i64 0, .i .i64 0, .i .i64 0, isv 0 (fun _ => 0), isv 0 (fun _ => 0), .i .i64 0, .i .i64 0, .i .i64 0, .i .i64 0, .i .i64 0, .i .i64 0, .i .i64 0, .i .i64 0, .i .i64 0, isv 0 (fun _ => 0), isv 0 (fun _ => 0), svN 0 (fun _ => 0) (fun _ => 0) (fun _ => 0), svN 0 (fun _ => 0) (fun _ => 0) (fun _ => 0), .i .i64 0, .i .i64 0, .i .i64 0, .i .i64 0, .i .i64 0, .i .i64 0, .i .i64 0, .i .i64 0, .i .i64 0, isv 0 (fun _ => 0), isv 0 (fun _ => 0), svN 0 (fun _ => 0) (fun _ => 0) (fun _ => 0), svN 0 (fun _ => 0) (fun _ => 0) (fun _ => 0), .i .i64 0, .i .i64 0, .i .i64 0, .i .i64 0, .i .i64 0, .i .i64 0, .i .i64 0, .i .i64 0, .i .i64 0, isv 0 (fun _ => 0), isv 0 (fun _ => 0), svN 0 (fun _ => 0) (fun _ => 0) (fun _ => 0), svN 0 (fun _ => 0) (fun _ => 0) (fun _ => 0), .i .i64 0, .i .i64 0, .i .i64 0, .i .i64 0, .i .i64 0, .i .i64 0, .i .i64 0, .i .i64 0, .i .i64 0, .i .i64 0, .i .i64 0, .i .i64 0, .i .i64 0, .i .i64 0, .i .i64 0, .i .i64 0, .i .i64 0, .i .i64 0, .i .i64 0, .i .i64 0, .i .i64 0, .i .i64 0, .i .i64 0, .i .i64 0, .i .i64 0, .i .i64 0, .i .i64 0, .i .i64 0, .i .i64 0, .i .i64 0, .i .i64 0, .i .i64 0, .i .i64 0, .i .i64 0, .i .i64 0, .i .i64 0, .i .i64 0, .i .i64 0, .i .i64 0, .i .i64 0, .i .i64 0, .i .i64 0, .i .i64 0, .i .i64 0, .i .i64 0, .i .i64 0, .i .i64 0, .i .i64 0, .i .i64 0, .i .i64 0, .i .i64 0, .i .i64 0, .i .i64 0, .i .i64 0, .i .i64 0, .i .i64 0, .i .i64 0, svN 0 (qA []) (qM []) (qW []), svN 0 (qA []) (qM []) (qW []), svN 0 (qA []) (qM []) (qW []), svN 0 (qA []) (qM []) (qW []), svN 0 (qA []) (qM []) (qW []), svN 0 (qA []) (qM []) (qW []), svN 0 (qA []) (qM []) (qW []), svN 0 (qA []) (qM []) (qW []), svN 0 (qA []) (qM []) (qW []), svN 0 (qA []) (qM []) (qW []), svN 0 (qA []) (qM []) (qW []), svN 0 (qA []) (qM []) (qW []), svN 0 (qA []) (qM []) (qW []), svN 0 (qA []) (qM []) (qW []), svN 0 (qA []) (qM []) (qW []), svN 0 (qA []) (qM []) (qW []), svN 0 (qA []) (qM []) (qW []), svN 0 (qA []) (qM []) (qW []), svN 0 (qA []) (qM []) (qW [])] := by kernel_rfl
theorem zL_vw : VWL zL (tsL zS.ts) := by
  rw [zL_eq, tsz_eq]
  exact ⟨.refl _, .refl _, .refl _, VW.nil _ _, VW.nil _ _, .refl _, .refl _, .refl _, .refl _, .refl _, .refl _, .refl _, .refl _, .refl _, VW.nil _ _, VW.nil _ _, VW.nil _ _, VW.nil _ _, .refl _, .refl _, .refl _, .refl _, .refl _, .refl _, .refl _, .refl _, .refl _, VW.nil _ _, VW.nil _ _, VW.nil _ _, VW.nil _ _, .refl _, .refl _, .refl _, .refl _, .refl _, .refl _, .refl _, .refl _, .refl _, VW.nil _ _, VW.nil _ _, VW.nil _ _, VW.nil _ _, .refl _, .refl _, .refl _, .refl _, .refl _, .refl _, .refl _, .refl _, .refl _, .refl _, .refl _, .refl _, .refl _, .refl _, .refl _, .refl _, .refl _, .refl _, .refl _, .refl _, .refl _, .refl _, .refl _, .refl _, .refl _, .refl _, .refl _, .refl _, .refl _, .refl _, .refl _, .refl _, .refl _, .refl _, .refl _, .refl _, .refl _, .refl _, .refl _, .refl _, .refl _, .refl _, .refl _, .refl _, .refl _, .refl _, .refl _, .refl _, .refl _, .refl _, .refl _, .refl _, .refl _, .refl _, .refl _, .refl _, .refl _, VW.nil _ _, VW.nil _ _, VW.nil _ _, VW.nil _ _, VW.nil _ _, VW.nil _ _, VW.nil _ _, VW.nil _ _, VW.nil _ _, VW.nil _ _, VW.nil _ _, VW.nil _ _, VW.nil _ _, VW.nil _ _, VW.nil _ _, VW.nil _ _, VW.nil _ _, VW.nil _ _, VW.nil _ _, trivial⟩
theorem askN_con (s : LS) (ok : s.ok) (l k m : Int) (h : okA s l k m = false) : Con Try.prog 10 [lsV s, .i .i64 l, .i .i64 k, .i .i64 m] [] (.tup [lsV zS, .i .i64 2]) [] := by
  have h0 : Con Try.prog 10 [lsV s, .i .i64 l, .i .i64 k, .i .i64 m] [] (.tup [.agg zL, .i .i64 2]) [] := by
    unfold okA at h
    cases h1 : isLockB l with
    | false => exact con_pureX (askN0_vc s.ts isLockB l k m h1 _) (by kernel_rfl) (by repeat' first | exact trivial | exact isLock_con _ | exact rfl | (simp only [h1, Bool.not_true, Bool.not_false]; done) | apply And.intro)
    | true =>
      cases h2 : isServerB k with
      | false => exact con_pureX (askN1_vc s.ts isLockB isServerB l k m h1 h2 _) (by kernel_rfl) (by repeat' first | exact trivial | exact isLock_con _ | exact isServer_con _ | exact rfl | (simp only [h1, h2, Bool.not_true, Bool.not_false]; done) | apply And.intro)
      | true =>
        cases h3 : isWishB m with
        | false => exact con_pureX (askN2_vc s.ts isLockB isServerB isWishB l k m h1 h2 h3 _) (by kernel_rfl) (by repeat' first | exact trivial | exact isLock_con _ | exact isServer_con _ | exact isWish_con _ | exact rfl | (simp only [h1, h2, h3, Bool.not_true, Bool.not_false]; done) | apply And.intro)
        | true =>
          have h4 : vaS s = false := by simpa [h1, h2, h3] using h
          exact con_pureX (askN3_vc s.ts isLockB isServerB isWishB (vaS s) l k m h1 h2 h3 h4 _) (by kernel_rfl) (by repeat' first | exact trivial | exact isLock_con _ | exact isServer_con _ | exact isWish_con _ | exact valid_con s ok | exact rfl | (simp only [h1, h2, h3, h4, Bool.not_true, Bool.not_false]; done) | apply And.intro)
  exact h0.post (.tup ⟨.agg zL_vw, .refl _, trivial⟩) trivial
theorem ask_con (s : LS) (ok : s.ok) (l k m : Int) : Con Try.prog 10 [lsV s, .i .i64 l, .i .i64 k, .i .i64 m] [] (.tup [lsV (askS s l k m), .i .i64 (askE s l k m)]) [] := by
  unfold askS askE
  cases h : okA s l k m with
  | false => exact askN_con s ok l k m h
  | true =>
    unfold okA at h
    simp only [Bool.and_eq_true] at h
    obtain ⟨h1, h2, h3, h4⟩ := h
    simp only [cond_true]
    have hl : 0 ≤ l ∧ l < 19 := by simpa [isLockB] using h1
    have hk : 0 ≤ k ∧ k < 3 := by simpa [isServerB] using h2
    obtain ⟨l, rfl⟩ : ∃ q : Nat, l = Int.ofNat q := ⟨l.toNat, by simp; omega⟩
    have hlt : l < 19 := by have := hl.2; simp at this; omega
    have hr := mayB_ok (va_row h4 hlt)
    have ha := askR_ok hr m hk
    have hlay := lay_con s.ts (askR (s.row l) k m) ha.1 ha.2 l hlt
    rw [← set_ts] at hlay
    have hask := asked_con (s.row l) k m hk (by have := hr.len; omega)
    refine con_pureX (askO_vc s.ts (s.set l (onR (askR (s.row l) k m))).ts isLockB isServerB isWishB (vaS s) (askR (s.row l) k m).h (askR (s.row l) k m).q.length (qA (askR (s.row l) k m).q) (qM (askR (s.row l) k m).q) (qW (askR (s.row l) k m).q) l k m h1 h2 h3 h4 _) (by kernel_rfl) ?_
    repeat' first | exact trivial | exact isLock_con _ | exact isServer_con _ | exact isWish_con _ | exact valid_con s ok | exact copied_con _ ok | exact rowOfZ_con _ _ hlt | exact hask | exact hlay | exact rfl | (simp only [h1, h2, h3, h4, Bool.not_true, Bool.not_false]; done) | apply And.intro
theorem freeN_con (s : LS) (ok : s.ok) (l k : Int) (h : okF s l k = false) : Con Try.prog 11 [lsV s, .i .i64 l, .i .i64 k] [] (.tup [lsV zS, .i .i64 2]) [] := by
  have h0 : Con Try.prog 11 [lsV s, .i .i64 l, .i .i64 k] [] (.tup [.agg zL, .i .i64 2]) [] := by
    unfold okF at h
    cases h1 : isLockB l with
    | false => exact con_pureX (freeN0_vc s.ts isLockB l k h1 _) (by kernel_rfl) (by repeat' first | exact trivial | exact isLock_con _ | exact rfl | (simp only [h1, Bool.not_true, Bool.not_false]; done) | apply And.intro)
    | true =>
      cases h2 : isServerB k with
      | false => exact con_pureX (freeN1_vc s.ts isLockB isServerB l k h1 h2 _) (by kernel_rfl) (by repeat' first | exact trivial | exact isLock_con _ | exact isServer_con _ | exact rfl | (simp only [h1, h2, Bool.not_true, Bool.not_false]; done) | apply And.intro)
      | true =>
        have h4 : vaS s = false := by simpa [h1, h2] using h
        exact con_pureX (freeN2_vc s.ts isLockB isServerB (vaS s) l k h1 h2 h4 _) (by kernel_rfl) (by repeat' first | exact trivial | exact isLock_con _ | exact isServer_con _ | exact valid_con s ok | exact rfl | (simp only [h1, h2, h4, Bool.not_true, Bool.not_false]; done) | apply And.intro)
  exact h0.post (.tup ⟨.agg zL_vw, .refl _, trivial⟩) trivial
theorem free_con (s : LS) (ok : s.ok) (l k : Int) : Con Try.prog 11 [lsV s, .i .i64 l, .i .i64 k] [] (.tup [lsV (freeS s l k), .i .i64 (freeE s l k)]) [] := by
  unfold freeS freeE
  cases h : okF s l k with
  | false => exact freeN_con s ok l k h
  | true =>
    unfold okF at h
    simp only [Bool.and_eq_true] at h
    obtain ⟨h1, h2, h4⟩ := h
    simp only [cond_true]
    have hl : 0 ≤ l ∧ l < 19 := by simpa [isLockB] using h1
    have hk : 0 ≤ k ∧ k < 3 := by simpa [isServerB] using h2
    obtain ⟨l, rfl⟩ : ∃ q : Nat, l = Int.ofNat q := ⟨l.toNat, by simp; omega⟩
    have hlt : l < 19 := by have := hl.2; simp at this; omega
    have hr := mayB_ok (va_row h4 hlt)
    have ha := freeR_ok hr k
    have hlay := lay_con s.ts (freeR (s.row l) k) ha.1 ha.2 l hlt
    rw [← set_ts] at hlay
    have hfree := freed_con (s.row l) k hk (by have := hr.len; omega)
    refine con_pureX (freeO_vc s.ts (s.set l (onR (freeR (s.row l) k))).ts isLockB isServerB (vaS s) (freeR (s.row l) k).h (freeR (s.row l) k).q.length (qA (freeR (s.row l) k).q) (qM (freeR (s.row l) k).q) (qW (freeR (s.row l) k).q) l k h1 h2 h4 _) (by kernel_rfl) ?_
    repeat' first | exact trivial | exact isLock_con _ | exact isServer_con _ | exact valid_con s ok | exact copied_con _ ok | exact rowOfZ_con _ _ hlt | exact hfree | exact hlay | exact rfl | (simp only [h1, h2, h4, Bool.not_true, Bool.not_false]; done) | apply And.intro
set_option maxRecDepth 20000
theorem dropN0_vc (t : TS) (sv : Int → Bool) (k : Int) (h1 : sv k = false) (V : AV) : runK Try.prog 1000000 (.call 19 [tsV t, .i .i64 k] (mkH [])) (Orc.c (Orc.cal [] (tsV t) [] (Orc.cal [] (AV.b (sv k)) [] (Orc.f (Orc.f (Orc.f (Orc.t (Orc.c Orc.z)))))))) (fun r _ => rvIs V r) = (Con Try.prog 29 [tsV t] [] (tsV t) [] ∧ Con Try.prog 27 [AV.i .i64 k] [] (AV.b (sv k)) [] ∧ True ∧ (!!sv k) = false ∧ (!!sv k) = false ∧ (!!sv k) = false ∧ (!sv k) = true ∧ (tsV t) = V) := by kernel_rfl
theorem dropN1_vc (t : TS) (sv : Int → Bool) (vl : Bool) (k : Int) (h1 : sv k = true) (h2 : vl = false) (V : AV) : runK Try.prog 1000000 (.call 19 [tsV t, .i .i64 k] (mkH [])) (Orc.c (Orc.cal [] (tsV t) [] (Orc.cal [] (AV.b (sv k)) [] (Orc.t (Orc.t (Orc.cal [] (AV.b vl) [] (Orc.t (Orc.f (Orc.t Orc.z))))))))) (fun r _ => rvIs V r) = (Con Try.prog 29 [tsV t] [] (tsV t) [] ∧ Con Try.prog 27 [AV.i .i64 k] [] (AV.b (sv k)) [] ∧ True ∧ (!!sv k) = true ∧ (!!sv k) = true ∧ Con Try.prog 13 [tsV t] [] (AV.b vl) [] ∧ (!!sv k) = true ∧ True ∧ (!sv k) = false ∧ (!vl) = true ∧ (tsV t) = V) := by kernel_rfl
theorem dropR_vc (t : TS) (t1 : TS) (ah : Nat → Int) (an : Nat) (aA : Nat → Int) (aM : Nat → Int) (aW : Nat → Int) (k : Int) (l : Nat) (h1 : decide (Int.ofNat l < 19) = true) (K : Res → Orc → Prop) : runK Try.prog 1000000 (.code (loopAt Try.prog 19 0) 29 (mkT [(1, .i .i64 k), (4, .p 0 0), (5, .p 1 0), (18, .i .i64 (Int.ofNat l))]) (mkH [some tzO, some (tsZ t)])) (Orc.t (Orc.cal [1] (rwN (TS.h t l) (TS.n t l) (TS.A t l) (TS.M t l) (TS.W t l)) [Upd.keep] (Orc.cal [] (rwN ah an aA aM aW) [] (Orc.cal [1] (AV.tup []) [Upd.set (tsZ t1)] Orc.z)))) K = (decide (Int.ofNat l < 19) = true ∧ Con Try.prog 31 [AV.p 0 0, AV.i .i64 (Int.ofNat l)] [some (tsZ t)] (rwN (TS.h t l) (TS.n t l) (TS.A t l) (TS.M t l) (TS.W t l)) [Upd.keep] ∧ Con Try.prog 33 [rwN (TS.h t l) (TS.n t l) (TS.A t l) (TS.M t l) (TS.W t l), AV.i .i64 k] [] (rwN ah an aA aM aW) [] ∧ Con Try.prog 30 [AV.p 0 0, AV.i .i64 (Int.ofNat l),
  rwN ah an aA aM aW] [some (tsZ t)] (AV.tup []) [Upd.set (tsZ t1)] ∧ ((-9223372036854775808) ≤ Int.ofNat l + 1 ∧ Int.ofNat l + (1 : Int) ≤ (9223372036854775807 : Int)) ∧ K (Res.st XO.nrm (z0 (z1 (AV.i .i64 k) (z0 (z0 T.e (zl (AV.agg [AV.i .i64 (TS.h t l 0), AV.i .i64 (TS.h t l 1), AV.i .i64 (TS.h t l 2), AV.sv 3 (TS.n t l) (qF (TS.A t l) (TS.M t l) (TS.W t l))]))) (z0 (zl (AV.b (decide (Int.ofNat l < 19)))) (zl (AV.i .i64 (Int.ofNat l + 1))))) (z1 (AV.p 1 0) (z0 T.e (zl (AV.agg [AV.i .i64 (ah 0), AV.i .i64 (ah 1), AV.i .i64 (ah 2), AV.sv 3 an (qF aA aM aW)]))) (z0 (zl (AV.i .i64 (Int.ofNat l))) T.e))) (z0 (z1 (AV.p 0 0) (z0 T.e (zl (AV.i .i64 k))) (z0 (zl (AV.i .i64 (Int.ofNat l))) T.e)) (z1 (AV.i .i64 (Int.ofNat l)) (z0 (zl (AV.i .i64 (Int.ofNat l + 1))) (zl (AV.tup []))) (z0 (zl (AV.i .i64 (Int.ofNat l))) T.e)))) ⟨z1 (tzO) (zl (tsZ t1)) T.e, 2, [1]⟩) Orc.z) := by kernel_rfl
theorem dropE_vc (t : TS) (k : Int) (K : Res → Orc → Prop) : runK Try.prog 1000000 (.code (loopAt Try.prog 19 0) 29 (mkT [(1, .i .i64 k), (4, .p 0 0), (5, .p 1 0), (18, .i .i64 19)]) (mkH [some tzO, some (tsZ t)])) (Orc.c Orc.z) K = (K (Res.st (XO.exit 0) (z0 (z1 (AV.i .i64 k) (z0 T.e (z0 (zl (AV.b false)) T.e)) (zl (AV.p 1 0))) (z0 (zl (AV.p 0 0)) (z0 (z0 (zl (AV.i .i64 19)) T.e) T.e))) ⟨z1 (tzO) (zl (tsZ t)) T.e, 2, []⟩) Orc.z) := by kernel_rfl
theorem dropL_vc (t : TS) (t1 : TS) (sv : Int → Bool) (vl : Bool) (k : Int) (h1 : sv k = true) (h2 : vl = true) (V : AV) : runK Try.prog 1000000 (.call 19 [tsV t, .i .i64 k] (mkH [])) (Orc.c (Orc.cal [] (tsV t) [] (Orc.cal [] (AV.b (sv k)) [] (Orc.t (Orc.t (Orc.cal [] (AV.b vl) [] (Orc.t (Orc.f (Orc.f (Orc.lop [1, 2] [1, 4, 5, 18] 2 (XO.exit 0) [(4, AV.p 0 0), (5, AV.p 1 0)] [some tzO, some (tsZ t1)] Orc.z)))))))))) (fun r _ => rvIs V r) = (Con Try.prog 29 [tsV t] [] (tsV t) [] ∧ Con Try.prog 27 [AV.i .i64 k] [] (AV.b (sv k)) [] ∧ True ∧ (!!sv k) = true ∧ (!!sv k) = true ∧ Con Try.prog 13 [tsV t] [] (AV.b vl) [] ∧ (!!sv k) = true ∧ True ∧ (!sv k) = false ∧ (!vl) = false ∧ LDoes Try.prog (loopAt Try.prog 19 0) 29 2 (mkT [(1, AV.i .i64 k), (4, AV.p 0 0), (5, AV.p 1 0), (18, AV.i .i64 0)]) [some tzO, some (tsZ t)] (XO.exit 0) (mkT [(4, AV.p 0 0), (5, AV.p 1 0)]) [some tzO, some (tsZ t1)] ∧
  (tsV t1) = V) := by kernel_rfl
theorem holdsN0_vc (t : TS) (sv : Int → Bool) (k : Int) (h1 : sv k = false) (V : AV) : runK Try.prog 1000000 (.call 14 [tsV t, .i .i64 k] (mkH [])) (Orc.c (Orc.cal [] (AV.b (sv k)) [] (Orc.f (Orc.f (Orc.f (Orc.t (Orc.c Orc.z))))))) (fun r _ => rvIs V r) = (Con Try.prog 27 [AV.i .i64 k] [] (AV.b (sv k)) [] ∧ True ∧ (!!sv k) = false ∧ (!!sv k) = false ∧ (!!sv k) = false ∧ (!sv k) = true ∧ AV.l0 = V) := by kernel_rfl
theorem holdsN1_vc (t : TS) (sv : Int → Bool) (vl : Bool) (k : Int) (h1 : sv k = true) (h2 : vl = false) (V : AV) : runK Try.prog 1000000 (.call 14 [tsV t, .i .i64 k] (mkH [])) (Orc.c (Orc.cal [] (AV.b (sv k)) [] (Orc.t (Orc.t (Orc.cal [] (AV.b vl) [] (Orc.t (Orc.f (Orc.t Orc.z)))))))) (fun r _ => rvIs V r) = (Con Try.prog 27 [AV.i .i64 k] [] (AV.b (sv k)) [] ∧ True ∧ (!!sv k) = true ∧ (!!sv k) = true ∧ Con Try.prog 13 [tsV t] [] (AV.b vl) [] ∧ (!!sv k) = true ∧ True ∧ (!sv k) = false ∧ (!vl) = true ∧ AV.l0 = V) := by kernel_rfl
theorem holdsR0_vc (t : TS) (k : Int) (l m : Nat) (F : Nat → Nat → CV) (h1 : decide (Int.ofNat l < 19) = true) (h2 : (!decide (List.getD [TS.h t l 0, TS.h t l 1, TS.h t l 2] (Int.toNat k) 0 = 0)) = false) (K : Res → Orc → Prop) : runK Try.prog 1000000 (.code (loopAt Try.prog 14 0) 39 (mkT [(1, .i .i64 k), (2, .p 0 0), (5, .lr 1 3 0 m false), (17, .i .i64 (Int.ofNat l))]) (mkH [some (tsO t), some (.rows 61 3 m F)])) (Orc.t (Orc.cal [0] (rwN (TS.h t l) (TS.n t l) (TS.A t l) (TS.M t l) (TS.W t l)) [Upd.keep] (Orc.s (Orc.f Orc.z) Orc.z))) K = (decide (Int.ofNat l < 19) = true ∧ Con Try.prog 31 [AV.p 0 0, AV.i .i64 (Int.ofNat l)] [some (tsO t)] (rwN (TS.h t l) (TS.n t l) (TS.A t l) (TS.M t l) (TS.W t l)) [Upd.keep] ∧ True ∧ (0 ≤ k ∧ k < 3) ∧ Int.toNat k < 3 ∧ (!decide (List.getD [TS.h t l 0, TS.h t l 1, TS.h t l 2] (Int.toNat k) (0 : Int) = (0 : Int))) = false ∧ ((-9223372036854775808) ≤
  Int.ofNat l + 1 ∧ Int.ofNat l + (1 : Int) ≤ (9223372036854775807 : Int)) ∧ K (Res.st XO.nrm (z0 (z1 (AV.i .i64 k) (z0 (z1 (AV.p 2 0) T.e (zl (AV.p 2 0))) (z0 (zl (AV.i .i64 (Int.ofNat l))) (zl (AV.b !decide (List.getD [TS.h t l 0, TS.h t l 1, TS.h t l 2] (Int.toNat k) (0 : Int) = (0 : Int)))))) (z1 (AV.lr 1 3 0 m false) (z0 (zl (AV.i .i64 (Int.ofNat l + 1))) (zl (AV.i .i64 (List.getD [TS.h t l 0, TS.h t l 1, TS.h t l 2] (Int.toNat k) 0)))) (z0 (z1 (AV.agg [AV.i .i64 (TS.h t l 0), AV.i .i64 (TS.h t l 1), AV.i .i64 (TS.h t l 2), AV.sv 3 (TS.n t l) (qF (TS.A t l) (TS.M t l) (TS.W t l))]) (zl (AV.i .i64 (Int.ofNat l + 1))) T.e) T.e))) (z1 (AV.p 0 0) (z0 (z1 (AV.i .i64 (List.getD [TS.h t l 0, TS.h t l 1, TS.h t l 2] (Int.toNat k) 0)) T.e (zl (AV.ps 2 0 1 3 (Int.toNat k)))) (z0 (zl (AV.i .i64 (Int.ofNat l))) T.e)) (z1 (AV.i .i64 (Int.ofNat l)) (z0 (zl (AV.b (decide (Int.ofNat l < 19)))) (zl
  (AV.i .i64 (List.getD [TS.h t l 0, TS.h t l 1, TS.h t l 2] (Int.toNat k) 0)))) (z0 (zl (AV.i .i64 k)) T.e)))) ⟨z1 (tsO t) (zl (AObj.rows 61 3 m F)) (zl (AObj.cells 70 4 [AV.i .i64 0, AV.i .i64 0, AV.i .i64 0, AV.l0] (z1 (AV.i .i64 (TS.h t l 0)) (z1 (AV.i .i64 (TS.h t l 1)) (zl (AV.sv 3 (TS.n t l) (qF (TS.A t l) (TS.M t l) (TS.W t l)))) T.e) (zl (AV.i .i64 (TS.h t l 2)))))), 3, [2, 2]⟩) Orc.z) := by kernel_rfl
theorem holdsR1_vc (t : TS) (wn : Int) (k : Int) (l m : Nat) (F : Nat → Nat → CV) (h1 : decide (Int.ofNat l < 19) = true) (h2 : (!decide (List.getD [TS.h t l 0, TS.h t l 1, TS.h t l 2] (Int.toNat k) 0 = 0)) = true) (K : Res → Orc → Prop) : runK Try.prog 1000000 (.code (loopAt Try.prog 14 0) 39 (mkT [(1, .i .i64 k), (2, .p 0 0), (5, .lr 1 3 0 m false), (17, .i .i64 (Int.ofNat l))]) (mkH [some (tsO t), some (.rows 61 3 m F)])) (Orc.t (Orc.cal [0] (rwN (TS.h t l) (TS.n t l) (TS.A t l) (TS.M t l) (TS.W t l)) [Upd.keep] (Orc.s (Orc.t (Orc.cal [] (AV.i .i64 wn) [] Orc.z)) Orc.z))) K = (decide (Int.ofNat l < 19) = true ∧ Con Try.prog 31 [AV.p 0 0, AV.i .i64 (Int.ofNat l)] [some (tsO t)] (rwN (TS.h t l) (TS.n t l) (TS.A t l) (TS.M t l) (TS.W t l)) [Upd.keep] ∧ True ∧ (0 ≤ k ∧ k < 3) ∧ Int.toNat k < 3 ∧ (!decide (List.getD [TS.h t l 0, TS.h t l 1, TS.h t l 2] (Int.toNat k) (0 : Int) = (0 : Int)))
  = true ∧ Con Try.prog 35 [rwN (TS.h t l) (TS.n t l) (TS.A t l) (TS.M t l) (TS.W t l), AV.i .i64 k] [] (AV.i .i64 wn) [] ∧ (0 + m ≤ m ∧ True ∧ m + 1 ≤ 140737488355328 ∧ (3 * (m + 1) + 1536) * 24 ≤ 562949953421312) ∧ ((-9223372036854775808) ≤ Int.ofNat l + 1 ∧ Int.ofNat l + (1 : Int) ≤ (9223372036854775807 : Int)) ∧ K (Res.st XO.nrm (z0 (z1 (AV.i .i64 k) (z0 (z1 (AV.p 2 0) (z0 (zl (AV.agg [AV.i .i64 (TS.h t l 0), AV.i .i64 (TS.h t l 1), AV.i .i64 (TS.h t l 2), AV.sv 3 (TS.n t l) (qF (TS.A t l) (TS.M t l) (TS.W t l))])) T.e) (zl (AV.p 2 0))) (z0 (z1 (AV.i .i64 (Int.ofNat l)) (zl (AV.l 3 0 1 1 3 true)) T.e) (zl (AV.b !decide (List.getD [TS.h t l 0, TS.h t l 1, TS.h t l 2] (Int.toNat k) (0 : Int) = (0 : Int)))))) (z1 (AV.lr 4 3 0 (addN m 1) false) (z0 (z1 (AV.i .i64 (Int.ofNat l + 1)) (zl (AV.i .i64 wn)) T.e) (zl (AV.i .i64 (List.getD [TS.h t l 0, TS.h t l 1, TS.h t l 2] (Int.toNat k) 0))))
  (z0 (z1 (AV.agg [AV.i .i64 (TS.h t l 0), AV.i .i64 (TS.h t l 1), AV.i .i64 (TS.h t l 2), AV.sv 3 (TS.n t l) (qF (TS.A t l) (TS.M t l) (TS.W t l))]) (zl (AV.i .i64 (Int.ofNat l + 1))) T.e) (zl (AV.i .i64 (Int.ofNat l)))))) (z1 (AV.p 0 0) (z0 (z1 (AV.i .i64 (List.getD [TS.h t l 0, TS.h t l 1, TS.h t l 2] (Int.toNat k) 0)) (z0 (zl (AV.i .i64 k)) T.e) (zl (AV.ps 2 0 1 3 (Int.toNat k)))) (z0 (z1 (AV.i .i64 (Int.ofNat l)) (zl (AV.lr 4 3 0 (addN m 1) false)) T.e) (zl (AV.lr 1 3 0 m false)))) (z1 (AV.i .i64 (Int.ofNat l)) (z0 (z1 (AV.b (decide (Int.ofNat l < 19))) (zl (AV.agg [AV.i .i64 (Int.ofNat l), AV.i .i64 (List.getD [TS.h t l 0, TS.h t l 1, TS.h t l 2] (Int.toNat k) 0), AV.i .i64 wn])) T.e) (zl (AV.i .i64 (List.getD [TS.h t l 0, TS.h t l 1, TS.h t l 2] (Int.toNat k) 0)))) (z0 (zl (AV.i .i64 k)) (zl (AV.i .i64 (List.getD [TS.h t l 0, TS.h t l 1, TS.h t l 2] (Int.toNat k) 0))))))) ⟨z1 (tsO
  t) (z0 (zl (AObj.cells 61 3 [] (z1 (AV.i .i64 (Int.ofNat l)) (zl (AV.i .i64 (List.getD [TS.h t l 0, TS.h t l 1, TS.h t l 2] (Int.toNat k) 0))) (zl (AV.i .i64 wn))))) T.e) (z1 (AObj.cells 70 4 [AV.i .i64 0, AV.i .i64 0, AV.i .i64 0, AV.l0] (z1 (AV.i .i64 (TS.h t l 0)) (z1 (AV.i .i64 (TS.h t l 1)) (zl (AV.sv 3 (TS.n t l) (qF (TS.A t l) (TS.M t l) (TS.W t l)))) T.e) (zl (AV.i .i64 (TS.h t l 2))))) (zl (AObj.rows 61 3 (addN m 1) (appZ m F (listF 3 [CV.i .i64 (Int.ofNat l), CV.i .i64 (List.getD [TS.h t l 0, TS.h t l 1, TS.h t l 2] (Int.toNat k) 0), CV.i .i64 wn] 1)))) T.e), 5, [4, 1, 3, 2, 2]⟩) Orc.z) := by kernel_rfl
theorem holdsE_vc (t : TS) (k : Int) (m : Nat) (F : Nat → Nat → CV) (K : Res → Orc → Prop) : runK Try.prog 1000000 (.code (loopAt Try.prog 14 0) 39 (mkT [(1, .i .i64 k), (2, .p 0 0), (5, .lr 1 3 0 m false), (17, .i .i64 19)]) (mkH [some (tsO t), some (.rows 61 3 m F)])) (Orc.c Orc.z) K = (K (Res.st (XO.exit 0) (z0 (z1 (AV.i .i64 k) T.e (z1 (AV.lr 1 3 0 m false) (z0 (zl (AV.i .i64 19)) T.e) T.e)) (z1 (AV.p 0 0) T.e (z0 (z0 (zl (AV.b false)) T.e) T.e))) ⟨z1 (tsO t) (zl (AObj.rows 61 3 m F)) T.e, 2, []⟩) Orc.z) := by kernel_rfl
theorem holdsL_vc (t : TS) (sv : Int → Bool) (vl : Bool) (G : Nat → Nat → CV) (gn : Nat) (k : Int) (h1 : sv k = true) (h2 : vl = true) (K : Res → Orc → Prop) : runK Try.prog 1000000 (.call 14 [tsV t, .i .i64 k] (mkH [])) (Orc.c (Orc.cal [] (AV.b (sv k)) [] (Orc.t (Orc.t (Orc.cal [] (AV.b vl) [] (Orc.t (Orc.f (Orc.f (Orc.lop [0] [1, 2, 5, 17] 1 (XO.exit 0) [(5, AV.lr 1 3 0 gn false)] [some (tsO t), some (AObj.rows 61 3 gn G)] Orc.z))))))))) K = (Con Try.prog 27 [AV.i .i64 k] [] (AV.b (sv k)) [] ∧ True ∧ (!!sv k) = true ∧ (!!sv k) = true ∧ Con Try.prog 13 [tsV t] [] (AV.b vl) [] ∧ (!!sv k) = true ∧ True ∧ (!sv k) = false ∧ (!vl) = false ∧ LDoes Try.prog (loopAt Try.prog 14 0) 39 1 (mkT [(1, AV.i .i64 k), (2, AV.p 0 0), (5, AV.l0), (17, AV.i .i64 0)]) [some (tsO t)] (XO.exit 0) (mkT [(5, AV.lr 1 3 0 gn false)]) [some (tsO t), some (AObj.rows 61 3 gn G)] ∧ K (Res.rv (AV.lr 1 3 0 gn false)
  ⟨z1 (tsO t) (zl (AObj.rows 61 3 gn G)) T.e, 2, [1, 0, 0]⟩) Orc.z) := by kernel_rfl
theorem apq3 {n i j i0 i1 : Nat} {f g : Nat → Nat → CV} {A M W A' M' W' : Nat → Int} (hj : j < 3) (h1 : ∀ j, j < 3 → f i j = qF A M W i0 j) (h2 : ∀ j, j < 3 → g (i - n) j = qF A' M' W' i1 j) : appZ n f g i j = if i < n then qF A M W i0 j else qF A' M' W' i1 j := by
  match j, hj with
  | 0, h => rw [appZ_i (k := .i64) (a := A i0) (b := A' i1) (h1 0 h) (h2 0 h)]; split <;> rfl
  | 1, h => rw [appZ_i (k := .i64) (a := M i0) (b := M' i1) (h1 1 h) (h2 1 h)]; split <;> rfl
  | 2, h => rw [appZ_i (k := .i64) (a := W i0) (b := W' i1) (h1 2 h) (h2 2 h)]; split <;> rfl
theorem listF_q (a m w : Int) (i j : Nat) (hj : j < 3) : listF 3 [.i .i64 a, .i .i64 m, .i .i64 w] 1 i j = qF (fun _ => a) (fun _ => m) (fun _ => w) 0 j := by
  match j, hj with
  | 0, _ => rfl
  | 1, _ => rfl
  | 2, _ => rfl
theorem dropN_set (s : LS) (k : Int) (l : Nat) : dropN s k (l + 1) = (dropN s k l).set l (onR (freeR (s.row l) k)) := by
  unfold dropN LS.set
  simp only [LS.mk.injEq, true_and]
  funext j
  cases h1 : Nat.beq j l with
  | true =>
    have := Nat.eq_of_beq_eq_true h1
    subst this
    have : Nat.blt j (j + 1) = true := by rw [Nat.blt_eq]; omega
    rw [this]; rfl
  | false =>
    have hne := Nat.ne_of_beq_eq_false h1
    have : Nat.blt j (l + 1) = Nat.blt j l := by
      rw [Bool.eq_iff_iff, Nat.blt_eq, Nat.blt_eq]; omega
    rw [this]; rfl
theorem dropN_0 (s : LS) (k : Int) : dropN s k 0 = s := by
  unfold dropN
  have : ∀ j, Nat.blt j 0 = false := fun j => by rw [Bool.eq_false_iff, ne_eq, Nat.blt_eq]; omega
  simp [this]
theorem dropN_row (s : LS) (k : Int) (l : Nat) : (dropN s k l).row l = s.row l := by
  unfold dropN
  have : Nat.blt l l = false := by rw [Bool.eq_false_iff, ne_eq, Nat.blt_eq]; omega
  simp [this]
theorem drop_lp (s : LS) (k : Int) (hk : 0 ≤ k ∧ k < 3) (h : vaS s = true) : LDoes Try.prog (loopAt Try.prog 19 0) 29 2 (mkT [(1, .i .i64 k), (4, .p 0 0), (5, .p 1 0), (18, .i .i64 0)]) [some tzO, some (tsZ s.ts)] (.exit 0) (mkT [(4, .p 0 0), (5, .p 1 0)]) [some tzO, some (tsZ (dropN s k 19).ts)] := by
  have key := loop_ind (P := Try.prog) (c := loopAt Try.prog 19 0) (n := 29) (b := 2) (x := .exit 0) (l' := [(4, .p 0 0), (5, .p 1 0)]) (objs' := [some tzO, some (tsZ (dropN s k 19).ts)]) (D := Nat) (fun l : Nat => ([(1, .i .i64 k), (4, .p 0 0), (5, .p 1 0), (18, .i .i64 (Int.ofNat l))], [some tzO, some (tsZ (dropN s k l).ts)])) (fun l => 19 - l) (fun l => l ≤ 19) (fun l hl => ?_) 0 (Nat.zero_le _)
  · rw [dropN_0] at key; exact key
  refine ⟨Nat.le_refl _, ?_⟩
  by_cases e : l = 19
  · subst e
    exact ⟨_, _, (dropE_vc _ k _).mpr (.inr ⟨[0, 1], [], _, _, rfl, by simp, st_k [0, 1] (by kernel_rfl)⟩)⟩
  · have h1 : decide (Int.ofNat l < 19) = true := by simp <;> omega
    have hlt : l < 19 := by omega
    have hr := mayB_ok (va_row h hlt)
    have hf := freeR_ok hr k
    have hlay := lay_con (dropN s k l).ts (freeR (s.row l) k) hf.1 hf.2 l hlt
    rw [← set_ts, ← dropN_set] at hlay
    have hfree := freed_con (s.row l) k hk (by have := hr.len; omega)
    have hrow := rowOfZ_con (dropN s k l).ts l hlt
    have e2 : rwN ((dropN s k l).ts.h l) ((dropN s k l).ts.n l) ((dropN s k l).ts.A l) ((dropN s k l).ts.M l) ((dropN s k l).ts.W l) = rwV (s.row l) := by
      show rwV ((dropN s k l).row l) = _
      rw [dropN_row]
    refine ⟨_, _, (dropR_vc (dropN s k l).ts (dropN s k (l + 1)).ts (freeR (s.row l) k).h (freeR (s.row l) k).q.length (qA (freeR (s.row l) k).q) (qM (freeR (s.row l) k).q) (qW (freeR (s.row l) k).q) k l h1 _).mpr ⟨h1, hrow, by rw [e2]; exact hfree, hlay, ⟨by simp <;> omega, by simp <;> omega⟩, .inl ⟨l + 1, [0, 1], [], _, _, by omega, by show 19 - (l + 1) < 19 - l; omega, rfl, st_k [0, 1] (by kernel_rfl)⟩⟩⟩
theorem drop_con (s : LS) (ok : s.ok) (k : Int) : Con Try.prog 19 [lsV s, .i .i64 k] [] (lsV (dropS s k)) [] := by
  unfold dropS
  cases h1 : isServerB k with
  | false => exact con_pureX (dropN0_vc s.ts isServerB k h1 _) (tsV_below _) (by repeat' first | exact trivial | exact isServer_con _ | exact copied_con _ ok | exact rfl | (simp only [h1, Bool.not_true, Bool.not_false]; done) | apply And.intro)
  | true =>
    cases h2 : vaS s with
    | false => exact con_pureX (dropN1_vc s.ts isServerB (vaS s) k h1 h2 _) (tsV_below _) (by repeat' first | exact trivial | exact isServer_con _ | exact copied_con _ ok | exact valid_con s ok | exact rfl | (simp only [h1, h2, Bool.not_true, Bool.not_false]; done) | apply And.intro)
    | true =>
      have hk : 0 ≤ k ∧ k < 3 := by simpa [isServerB] using h1
      exact con_pureX (dropL_vc s.ts (dropN s k 19).ts isServerB (vaS s) k h1 h2 _) (tsV_below _) (by repeat' first | exact trivial | exact isServer_con _ | exact copied_con _ ok | exact valid_con s ok | exact drop_lp s k hk h2 | exact rfl | (simp only [h1, h2, Bool.not_true, Bool.not_false]; done) | apply And.intro)
theorem hldN_s (s : LS) (k : Int) (l : Nat) : hldN s k (l + 1) = hldN s k l ++ (if hx (s.row l).h k = 0 then [] else [⟨l, hx (s.row l).h k, wantR (s.row l) k⟩]) := rfl
theorem hldN_len (s : LS) (k : Int) : ∀ l, (hldN s k l).length ≤ l
  | 0 => Nat.le_refl _
  | l + 1 => by
    have := hldN_len s k l
    rw [hldN_s, List.length_append]
    split <;> simp <;> omega
theorem holds_lp (s : LS) (k : Int) (hk : 0 ≤ k ∧ k < 3) : LDoes Try.prog (loopAt Try.prog 14 0) 39 1 (mkT [(1, .i .i64 k), (2, .p 0 0), (5, .l0), (17, .i .i64 0)]) [some (tsO s.ts)] (.exit 0) (mkT [(5, .lr 1 3 0 (hldN s k 19).length false)]) [some (tsO s.ts), some (.rows 61 3 (hldN s k 19).length (qF (qA (hldN s k 19)) (qM (hldN s k 19)) (qW (hldN s k 19))))] := by
  have key := loop_indE (P := Try.prog) (c := loopAt Try.prog 14 0) (n := 39) (b := 1) (x := .exit 0) (l' := [(5, .lr 1 3 0 (hldN s k 19).length false)]) (objs' := [some (tsO s.ts), some (.rows 61 3 (hldN s k 19).length (qF (qA (hldN s k 19)) (qM (hldN s k 19)) (qW (hldN s k 19))))]) (D := Nat)
    (fun l : Nat => ([(1, .i .i64 k), (2, .p 0 0), (5, .lr 1 3 0 (hldN s k l).length false), (17, .i .i64 (Int.ofNat l))], [some (tsO s.ts), some (.rows 61 3 (hldN s k l).length (qF (qA (hldN s k l)) (qM (hldN s k l)) (qW (hldN s k l))))])) (fun l => 19 - l) (fun l => l ≤ 19) (fun l hl => ?_) 0 (Nat.zero_le _)
  · refine key.weak ⟨rfl, .inl rfl, rfl, .inl rfl, rfl, .inr ⟨rfl, .inl ⟨1, 3, 0, false, rfl⟩⟩, rfl, .inl rfl, trivial⟩ ⟨.refl _, ?_⟩
    intro o ho
    simp at ho; subst ho
    exact ⟨_, rfl, rfl⟩
  refine ⟨by simp, ?_⟩
  by_cases e : l = 19
  · subst e
    exact ⟨_, _, (holdsE_vc _ k _ _ _).mpr (.inr ⟨[0, 1], [], _, _, _, rfl, by simp, st_k [0, 1] (by kernel_rfl), OEqL.refl _⟩)⟩
  · have h1 : decide (Int.ofNat l < 19) = true := by simp <;> omega
    have hlt : l < 19 := by omega
    have hlen := hldN_len s k l
    by_cases hz : hx (s.row l).h k = 0
    · have h2 : (!decide (List.getD [TS.h s.ts l 0, TS.h s.ts l 1, TS.h s.ts l 2] (Int.toNat k) 0 = 0)) = false := by
        have : List.getD [TS.h s.ts l 0, TS.h s.ts l 1, TS.h s.ts l 2] (Int.toNat k) 0 = hx (s.row l).h k := rfl
        rw [this, hz]; rfl
      have e2 : hldN s k (l + 1) = hldN s k l := by rw [hldN_s, if_pos hz, List.append_nil]
      refine ⟨_, _, (holdsR0_vc s.ts k l _ _ h1 h2 _).mpr ⟨h1, rowOf_con _ _ hlt, trivial, hk, by omega, h2, ⟨by simp <;> omega, by simp <;> omega⟩, .inl ⟨l + 1, [0, 1], [], _, _, _, by omega, by show 19 - (l + 1) < 19 - l; omega, rfl, ?_, OEqL.refl _⟩⟩⟩
      dsimp only
      rw [e2]
      exact st_k [0, 1] (by kernel_rfl)
    · have h2 : (!decide (List.getD [TS.h s.ts l 0, TS.h s.ts l 1, TS.h s.ts l 2] (Int.toNat k) 0 = 0)) = true := by
        have : List.getD [TS.h s.ts l 0, TS.h s.ts l 1, TS.h s.ts l 2] (Int.toNat k) 0 = hx (s.row l).h k := rfl
        rw [this]; simp [hz]
      have e2 : hldN s k (l + 1) = hldN s k l ++ [⟨l, hx (s.row l).h k, wantR (s.row l) k⟩] := by rw [hldN_s, if_neg hz]
      have e3 : (hldN s k (l + 1)).length = addN (hldN s k l).length 1 := by rw [e2, addN_eq]; simp
      have hw := wanted_con (s.row l).h (qA (s.row l).q) (qM (s.row l).q) (qW (s.row l).q) (s.row l).q.length k (by simp [isServerB]; exact hk)
      refine ⟨_, _, (holdsR1_vc s.ts (wantR (s.row l) k) k l _ _ h1 h2 _).mpr ⟨h1, rowOf_con _ _ hlt, trivial, hk, by omega, h2, hw, ⟨by omega, trivial, by omega, by omega⟩, ⟨by simp <;> omega, by simp <;> omega⟩, .inl ⟨l + 1, [0, 4], [], _, _, [some (tsO s.ts), some (.rows 61 3 (addN (hldN s k l).length 1) (appZ (hldN s k l).length (qF (qA (hldN s k l)) (qM (hldN s k l)) (qW (hldN s k l))) (listF 3 [.i .i64 (Int.ofNat l), .i .i64 (hx (s.row l).h k), .i .i64 (wantR (s.row l) k)] 1)))], by omega, by show 19 - (l + 1) < 19 - l; omega, rfl, ?_, ?_⟩⟩⟩
      · dsimp only
        rw [e3]
        exact st_k [0, 4] (by kernel_rfl)
      · dsimp only
        rw [e3]
        refine ⟨.refl _, .rows ?_, trivial⟩
        intro i j hi hj
        rw [addN_eq] at hi
        rw [e2, apq3 hj (fun _ _ => rfl) (fun j hj => listF_q (Int.ofNat l) (hx (s.row l).h k) (wantR (s.row l) k) _ j hj)]
        by_cases c : i < (hldN s k l).length
        · rw [if_pos c]
          apply qF_eq
          simp [List.getD_eq_getElem?_getD, List.getElem?_append, c]
        · obtain rfl : i = (hldN s k l).length := by omega
          rw [if_neg c]
          refine (qF_one ⟨Int.ofNat l, hx (s.row l).h k, wantR (s.row l) k⟩ j).trans (qF_eq ?_)
          simp [List.getD_eq_getElem?_getD, List.getElem?_append]
theorem holds_con (s : LS) (ok : s.ok) (k : Int) : Con Try.prog 14 [lsV s, .i .i64 k] [] (svQ (hldS s k)) [] := by
  unfold hldS
  cases h1 : isServerB k with
  | false =>
    have h0 : Con Try.prog 14 [lsV s, .i .i64 k] [] .l0 [] := con_pureX (holdsN0_vc s.ts isServerB k h1 _) rfl (by repeat' first | exact trivial | exact isServer_con _ | exact rfl | (simp only [h1, Bool.not_true, Bool.not_false]; done) | apply And.intro)
    exact h0.post (VW.nil _ _) trivial
  | true =>
    cases h2 : vaS s with
    | false =>
      have h0 : Con Try.prog 14 [lsV s, .i .i64 k] [] .l0 [] := con_pureX (holdsN1_vc s.ts isServerB (vaS s) k h1 h2 _) rfl (by repeat' first | exact trivial | exact isServer_con _ | exact valid_con s ok | exact rfl | (simp only [h1, h2, Bool.not_true, Bool.not_false]; done) | apply And.intro)
      exact h0.post (VW.nil _ _) trivial
    | true =>
      have hk : 0 ≤ k ∧ k < 3 := by simpa [isServerB] using h1
      have hlp := holds_lp s k hk
      simp only [Bool.and_self, cond_true]
      generalize hldN s k 19 = L at hlp ⊢
      have h0 : Con Try.prog 14 [lsV s, .i .i64 k] [] (.sv 3 L.length (shiftF 0 (qF (qA L) (qM L) (qW L)))) [] := by
        refine con_runX [1] [] (holdsL_vc s.ts isServerB (vaS s) (qF (qA L) (qM L) (qW L)) L.length k h1 h2 _) ?_
        refine ⟨isServer_con _, trivial, by simp only [h1, Bool.not_true, Bool.not_false], by simp only [h1, Bool.not_true, Bool.not_false], valid_con s ok, by simp only [h1, Bool.not_true, Bool.not_false], trivial, by simp only [h1, Bool.not_true], by simp only [h2, Bool.not_true], hlp, _, _, rfl, ?_⟩
        exact ret_fz [1] ((3 = 3 ∧ 0 + L.length ≤ L.length) ∧ True) (by kernel_rfl) (by kernel_rfl) ⟨⟨rfl, by omega⟩, trivial⟩ (by kernel_rfl) rfl (by kernel_rfl) (by kernel_rfl) rfl trivial
      refine h0.post (VW.sv fun i j hi hj => ?_) trivial
      rw [shiftF_eq, Nat.zero_add]
end Go.Proofs.Lk
