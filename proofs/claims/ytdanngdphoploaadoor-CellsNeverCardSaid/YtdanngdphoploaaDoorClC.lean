/- Runs over unknown values, told by the kernel: part ClC. -/
import Derived.Test.YtdanngdphoploaaDoorClB
set_option linter.unusedSimpArgs false
set_option linter.unusedVariables false
set_option maxRecDepth 20000
namespace Go.Proofs.Cl
open Go Go.Sim Go.Proofs Go.Proofs.Cd Go.Proofs.St Go.Proofs.YtdanngdphoploaaDoor

noncomputable def putE (c : CS) (s : SS) (i : Int) (x : List Nat) : Int := c.putE s i x
noncomputable def putC (c : CS) (s : SS) (i : Int) (x : List Nat) : CS := c.putC s i x
noncomputable def putS (c : CS) (s : SS) (i : Int) (x : List Nat) : SS := c.putS s i x
noncomputable def arm (s : SS) (k : Int) : SS := s.arm k
noncomputable def fail (s : SS) : SS := s.fail
noncomputable def revived (s : SS) (k : Int) (t : Bool) : SS := s.revived k t
noncomputable def gh (c : CS) : Nat → List Nat := fun j => c.getD (Int.ofNat j)
theorem neverR_vc (c : CS) (s : SS) (L k : Nat) (KK II : Nat → Int) (XX : Nat → List Nat) (TT : Nat → Bool) (hh : Nat → List Nat) (K : Res → Orc → Prop) : runK Tryd.prog 1000000
  (.code (loopAt Tryd.prog 12 0) 148 (mkT [(3, .p 0 0), (5, .p 1 0), (7, .p 2 0), (33, .sv 4 L (opF KK II XX TT)), (34, .i .i64 (Int.ofNat L)), (35, .i .i64 (Int.ofNat k))]) (mkH
  [some s.o, some c.oa, some (haveO hh)])) (Orc.s (Orc.s Orc.z (Orc.s (Orc.cal [0] (AV.tup []) [Upd.set (SS.o (arm s (II k)))] Orc.z) (Orc.s (Orc.t (Orc.t (Orc.f (Orc.s (Orc.cal [0]
  (AV.tup []) [Upd.set (SS.o (fail s))] (Orc.c (Orc.c (Orc.cal [0] (AV.i .i64 (0 : Int)) [Upd.set (SS.o (revived (fail s) (II k) (TT k)))] (Orc.c (Orc.cal [0] (AV.tup [AV.p 1 0,
  AV.i .i64 (0 : Int)]) [Upd.keep, Upd.set (CS.oa (opened (revived (fail s) (II k) (TT k)) 4))] (Orc.c (Orc.c (Orc.c (Orc.c (Orc.lop [0, 4, 2, 3] [3, 5, 7, 9, 10, 33, 34, 35, 101] 3
  (XO.exit 2) [(3, AV.p 0 0), (5, AV.p 1 0), (7, AV.p 2 0), (33, AV.sv 4 L (opF KK II XX TT)), (34, AV.i .i64 (Int.ofNat L)), (35, AV.i .i64 (Int.ofNat k))] [some (SS.o (revived
  (fail s) (II k) (TT k))), some (CS.oa (opened (revived (fail s) (II k) (TT k)) 4)), some (haveO (gh (opened (revived (fail s) (II k) (TT k)) 4)))] Orc.z))))))))))) (Orc.cal [1, 0]
  (AV.i .i64 (putE c s (II k) (XX k))) [Upd.set (CS.o (putC c s (II k) (XX k))), Upd.set (SS.o (putS c s (II k) (XX k)))] (Orc.s (Orc.s (Orc.t (Orc.t (Orc.f (Orc.s Orc.z (Orc.s
  (Orc.s (Orc.cal [0] (AV.i .i64 (0 : Int)) [Upd.set (SS.o (revived (putS c s (II k) (XX k)) (II k) (TT k)))] (Orc.c (Orc.cal [0] (AV.tup [AV.p 1 0, AV.i .i64 (0 : Int)]) [Upd.keep,
  Upd.set (CS.oa (opened (revived (putS c s (II k) (XX k)) (II k) (TT k)) 4))] (Orc.c (Orc.c (Orc.c (Orc.c (Orc.lop [0, 4, 2, 3] [3, 5, 7, 9, 10, 33, 34, 35, 101] 3 (XO.exit 2) [(3,
  AV.p 0 0), (5, AV.p 1 0), (7, AV.p 2 0), (33, AV.sv 4 L (opF KK II XX TT)), (34, AV.i .i64 (Int.ofNat L)), (35, AV.i .i64 (Int.ofNat k))] [some (SS.o (revived (putS c s (II k) (XX
  k)) (II k) (TT k))), some (CS.oa (opened (revived (putS c s (II k) (XX k)) (II k) (TT k)) 4)), some (haveO (gh (opened (revived (putS c s (II k) (XX k)) (II k) (TT k)) 4)))]
  Orc.z)))))))) (Orc.lop [0, 1, 2, 3] [3, 5, 7, 9, 10, 33, 34, 35, 101] 3 (XO.exit 2) [(3, AV.p 0 0), (5, AV.p 1 0), (7, AV.p 2 0), (33, AV.sv 4 L (opF KK II XX TT)), (34, AV.i .i64
  (Int.ofNat L)), (35, AV.i .i64 (Int.ofNat k))] [some (SS.o (putS c s (II k) (XX k))), some (CS.oa (putC c s (II k) (XX k))), some (haveO (gh (putC c s (II k) (XX k))))] Orc.z))
  Orc.z))))) (Orc.f (Orc.f (Orc.t (Orc.c Orc.z))))) (Orc.s (Orc.cal [0] (AV.i .i64 (0 : Int)) [Upd.set (SS.o (revived (putS c s (II k) (XX k)) (II k) (TT k)))] (Orc.c (Orc.cal [0]
  (AV.tup [AV.p 1 0, AV.i .i64 (0 : Int)]) [Upd.keep, Upd.set (CS.oa (opened (revived (putS c s (II k) (XX k)) (II k) (TT k)) 4))] (Orc.c (Orc.c (Orc.c (Orc.c (Orc.lop [0, 4, 2, 3]
  [3, 5, 7, 9, 10, 33, 34, 35, 101] 3 (XO.exit 2) [(3, AV.p 0 0), (5, AV.p 1 0), (7, AV.p 2 0), (33, AV.sv 4 L (opF KK II XX TT)), (34, AV.i .i64 (Int.ofNat L)), (35, AV.i .i64
  (Int.ofNat k))] [some (SS.o (revived (putS c s (II k) (XX k)) (II k) (TT k))), some (CS.oa (opened (revived (putS c s (II k) (XX k)) (II k) (TT k)) 4)), some (haveO (gh (opened
  (revived (putS c s (II k) (XX k)) (II k) (TT k)) 4)))] Orc.z)))))))) (Orc.lop [0, 1, 2, 3] [3, 5, 7, 9, 10, 33, 34, 35, 101] 3 (XO.exit 2) [(3, AV.p 0 0), (5, AV.p 1 0), (7, AV.p
  2 0), (33, AV.sv 4 L (opF KK II XX TT)), (34, AV.i .i64 (Int.ofNat L)), (35, AV.i .i64 (Int.ofNat k))] [some (SS.o (putS c s (II k) (XX k))), some (CS.oa (putC c s (II k) (XX
  k))), some (haveO (gh (putC c s (II k) (XX k))))] Orc.z)))))))) (Orc.f (Orc.f (Orc.t (Orc.c (Orc.cal [0] (AV.tup []) [Upd.set (SS.o (fail s))] (Orc.c (Orc.c (Orc.cal [0] (AV.i
  .i64 (0 : Int)) [Upd.set (SS.o (revived (fail s) (II k) (TT k)))] (Orc.c (Orc.cal [0] (AV.tup [AV.p 1 0, AV.i .i64 (0 : Int)]) [Upd.keep, Upd.set (CS.oa (opened (revived (fail s)
  (II k) (TT k)) 4))] (Orc.c (Orc.c (Orc.c (Orc.c (Orc.lop [0, 4, 2, 3] [3, 5, 7, 9, 10, 33, 34, 35, 101] 3 (XO.exit 2) [(3, AV.p 0 0), (5, AV.p 1 0), (7, AV.p 2 0), (33, AV.sv 4 L
  (opF KK II XX TT)), (34, AV.i .i64 (Int.ofNat L)), (35, AV.i .i64 (Int.ofNat k))] [some (SS.o (revived (fail s) (II k) (TT k))), some (CS.oa (opened (revived (fail s) (II k) (TT
  k)) 4)), some (haveO (gh (opened (revived (fail s) (II k) (TT k)) 4)))] Orc.z)))))))))))))))))) Orc.z) K = ((decide (Int.ofNat k < Int.ofNat L) = true → ((0 : Int) ≤ Int.ofNat k ∧
  Int.ofNat k < ↑L) ∧ True ∧ (decide ((300 : Int) < Int.ofNat k) = true → K (Res.st (XO.exit 0) (z0 (z0 (z1 (AV.p 0 0) (z1 (AV.p 2 0) T.e (z0 (zl (AV.agg [AV.i .i64 (KK k), AV.i
  .i64 (II k), AV.s (XX k), AV.b (TT k)])) T.e)) (z0 (z0 (zl (AV.i .i64 (Int.ofNat k))) T.e) T.e)) (z1 (AV.p 1 0) (z1 (AV.p 3 0) (z0 (zl (AV.sv 4 L (opF KK II XX TT))) T.e) (z0 (zl
  (AV.b (decide ((300 : Int) < Int.ofNat k)))) T.e)) (z0 (z0 (zl (AV.i .i64 (Int.ofNat k))) T.e) T.e))) (z0 (z0 (z1 (AV.i .i64 (Int.ofNat k)) T.e (z0 (zl (AV.i .i64 (Int.ofNat k)))
  T.e)) (z0 (z0 (zl (AV.b (decide (Int.ofNat k < Int.ofNat L)))) T.e) T.e)) (z0 (z0 (z0 (zl (AV.i .i64 (Int.ofNat L))) T.e) T.e) (z0 (z0 (zl (AV.pv 4 (opF KK II XX TT k))) T.e)
  T.e)))) { tree := z1 (SS.o s) (z1 (CS.oa c) (zl (AObj.cells 75 4 [AV.i .i64 (0 : Int), AV.i .i64 (0 : Int), AV.s [], AV.b false] (z1 (AV.i .i64 (KK k)) (z1 (AV.i .i64 (II k)) (zl (AV.b (TT k))) T.e) (zl (AV.s (XX k)))))) T.e) (zl (AObj.segs 83 4 [{ st := 0, sz := 1, n := 4, f := fun k x => CV.s (hh k) }])), next := 4, log := [3, 3] })
  Orc.z) ∧ (decide ((300 : Int) < Int.ofNat k) = false → True ∧ (decide (KK k = (1 : Int)) = true → True ∧ Con Tryd.prog 22 [AV.p 0 0, AV.i .i64 (II k)] [some (SS.o s)] (AV.tup [])
  [Upd.set (SS.o (arm s (II k)))] ∧ ((-9223372036854775808 : Int) ≤ Int.ofNat k + (1 : Int) ∧ Int.ofNat k + (1 : Int) ≤ (9223372036854775807 : Int)) ∧ K (Res.st XO.nrm (z0 (z0 (z1
  (AV.p 0 0) (z1 (AV.p 2 0) (z0 T.e (zl (AV.i .i64 (II k)))) (z0 (zl (AV.agg [AV.i .i64 (KK k), AV.i .i64 (II k), AV.s (XX k), AV.b (TT k)])) T.e)) (z0 (z0 (zl (AV.i .i64 (Int.ofNat
  k + (1 : Int)))) (z0 (z0 (zl (AV.i .i64 (Int.ofNat k + (1 : Int)))) T.e) T.e)) (z0 (zl (AV.i .i64 (KK k))) T.e))) (z1 (AV.p 1 0) (z1 (AV.p 3 0) (z0 (zl (AV.sv 4 L (opF KK II XX
  TT))) T.e) (z0 (zl (AV.b (decide ((300 : Int) < Int.ofNat k)))) T.e)) (z0 (z0 (zl (AV.i .i64 (Int.ofNat k))) T.e) (z0 (zl (AV.p 0 0)) T.e)))) (z0 (z0 (z1 (AV.i .i64 (Int.ofNat k))
  (z0 T.e (zl (AV.tup []))) (z0 (zl (AV.i .i64 (Int.ofNat k))) T.e)) (z0 (z0 (zl (AV.b (decide (Int.ofNat k < Int.ofNat L)))) T.e) (z0 (zl (AV.b (decide (KK k = (1 : Int))))) T.e)))
  (z0 (z0 (z0 (zl (AV.i .i64 (Int.ofNat L))) T.e) (z0 (zl (AV.p 3 0)) T.e)) (z0 (z0 (zl (AV.pv 4 (opF KK II XX TT k))) T.e) (z0 (zl (AV.p 3 1)) T.e))))) { tree := z1 (SS.o (arm s (II k))) (z1 (CS.oa c) (zl (AObj.cells 75 4 [AV.i .i64 (0 : Int), AV.i .i64 (0 : Int), AV.s [], AV.b false] (z1 (AV.i .i64 (KK k)) (z1 (AV.i .i64 (II k)) (zl (AV.b (TT k))) T.e) (zl (AV.s (XX k)))))) T.e) (zl (AObj.segs 83 4 [{ st := 0, sz := 1, n := 4, f := fun k x => CV.s (hh k) }])), next := 4, log := [0, 3, 3] })
  Orc.z) ∧ (decide (KK k = (1 : Int)) = false → True ∧ ((!decide (KK k = (2 : Int))) = true → True ∧ (!decide (KK k = (2 : Int))) = true ∧ (!decide (KK k = (2 : Int))) = true ∧
  decide (KK k = (2 : Int)) = false ∧ (decide (KK k = (3 : Int)) = true → Con Tryd.prog 24 [AV.p 0 0] [some (SS.o s)] (AV.tup []) [Upd.set (SS.o (fail s))] ∧ True ∧ True ∧ Con
  Tryd.prog 26 [AV.p 0 0, AV.i .i64 (II k), AV.b (TT k)] [some (SS.o (fail s))] (AV.i .i64 (0 : Int)) [Upd.set (SS.o (revived (fail s) (II k) (TT k)))] ∧ Con Tryd.prog 43 [AV.p 0 0,
  AV.i .i64 (4 : Int)] [some (SS.o (revived (fail s) (II k) (TT k)))] (AV.tup [AV.p 1 0, AV.i .i64 (0 : Int)]) [Upd.keep, Upd.set (CS.oa (opened (revived (fail s) (II k) (TT k))
  4))] ∧ True ∧ LDoes Tryd.prog (loopAt Tryd.prog 12 1) 148 3 (mkT [(3, AV.p 0 0), (5, AV.p 1 0), (7, AV.p 2 0), (9, AV.p 3 0), (10, AV.i .i64 (13 : Int)), (33, AV.sv 4 L (opF KK II
  XX TT)), (34, AV.i .i64 (Int.ofNat L)), (35, AV.i .i64 (Int.ofNat k)), (101, AV.i .i64 (0 : Int))]) [some (SS.o (revived (fail s) (II k) (TT k))), some (CS.oa (opened (revived
  (fail s) (II k) (TT k)) 4)), some (AObj.segs 83 4 [{ st := 0, sz := 1, n := 4, f := fun k x => CV.s (hh k) }]), some (opO (KK k) (II k) (XX k) (TT k))] (XO.exit 2) (mkT [(3, AV.p
  0 0), (5, AV.p 1 0), (7, AV.p 2 0), (33, AV.sv 4 L (opF KK II XX TT)), (34, AV.i .i64 (Int.ofNat L)), (35, AV.i .i64 (Int.ofNat k))]) [some (SS.o (revived (fail s) (II k) (TT
  k))), some (CS.oa (opened (revived (fail s) (II k) (TT k)) 4)), some (haveO (gh (opened (revived (fail s) (II k) (TT k)) 4)))] ∧ ((-9223372036854775808 : Int) ≤ Int.ofNat k + (1 :
  Int) ∧ Int.ofNat k + (1 : Int) ≤ (9223372036854775807 : Int)) ∧ K (Res.st XO.nrm (z0 (z0 (z1 (AV.p 0 0) (zl (AV.p 2 0)) (z0 (z0 (zl (AV.i .i64 (Int.ofNat k + (1 : Int)))) (z0 (z0
  (zl (AV.i .i64 (Int.ofNat k + (1 : Int)))) T.e) T.e)) T.e)) (z1 (AV.p 4 0) (z0 (z0 (zl (AV.sv 4 L (opF KK II XX TT))) T.e) T.e) T.e)) (z0 T.e (z0 (z0 (z0 (zl (AV.i .i64 (Int.ofNat
  L))) T.e) T.e) T.e))) { tree := z1 (SS.o (revived (fail s) (II k) (TT k))) (z1 (CS.oa c) (z0 T.e T.e) T.e) (z1 (AObj.segs 83 4 [{ st := 0, sz := 1, n := 4, f := fun k_1 x => CV.s (gh (opened (revived (fail s) (II k) (TT k)) 4) k_1) }]) (zl (CS.oa (opened (revived (fail s) (II k) (TT k)) 4))) T.e), next := 5, log := [3, 2, 4, 0, 4, 0, 0, 3, 3] })
  Orc.z) ∧ (decide (KK k = (3 : Int)) = false → True ∧ True ∧ Con Tryd.prog 47 [AV.p 0 0, AV.i .i64 (II k), AV.s (XX k)] [some (CS.o c), some (SS.o s)] (AV.i .i64 (putE c s (II k)
  (XX k))) [Upd.set (CS.o (putC c s (II k) (XX k))), Upd.set (SS.o (putS c s (II k) (XX k)))] ∧ (decide (putE c s (II k) (XX k) = (0 : Int)) = true → True ∧ ((!decide (II k < (0 :
  Int))) = true → True ∧ (!decide (II k < (0 : Int))) = true ∧ (!decide (II k < (0 : Int))) = true ∧ decide (II k < (0 : Int)) = false ∧ (decide ((3 : Int) < II k) = true → K
  (Res.st XO.ret (z0 (z0 (z1 (AV.p 0 0) (z1 (AV.p 2 0) (z0 (z0 (zl (AV.s (XX k))) T.e) T.e) (z0 (z1 (AV.agg [AV.i .i64 (KK k), AV.i .i64 (II k), AV.s (XX k), AV.b (TT k)]) (zl (AV.p
  3 1)) T.e) (zl (AV.b (decide (KK k = (3 : Int))))))) (z0 (z0 (z1 (AV.i .i64 (Int.ofNat k)) (zl (AV.p 3 1)) T.e) (zl (AV.b (decide (KK k = (2 : Int)))))) (z0 (zl (AV.i .i64 (KK
  k))) (zl (AV.p 1 0))))) (z1 (AV.p 1 0) (z1 (AV.p 3 0) (z0 (z1 (AV.sv 4 L (opF KK II XX TT)) (zl (AV.i .i64 (putE c s (II k) (XX k)))) T.e) (zl (AV.p 3 0))) (z0 (z1 (AV.b (decide
  ((300 : Int) < Int.ofNat k))) (zl (AV.b (decide ((3 : Int) < II k)))) T.e) T.e)) (z0 (z0 (z1 (AV.i .i64 (Int.ofNat k)) (zl (AV.b (decide (II k < (0 : Int))))) T.e) (zl (AV.p 3
  0))) (z0 T.e (zl (AV.i .i64 (II k))))))) (z1 (AV.b false) (z0 (z1 (AV.i .i64 (Int.ofNat k)) (z0 (z0 (zl (AV.i .i64 (putE c s (II k) (XX k)))) T.e) T.e) (z0 (z1 (AV.i .i64
  (Int.ofNat k)) (zl (AV.i .i64 (II k))) T.e) (zl (AV.b (decide (KK k = (3 : Int))))))) (z0 (z0 (z1 (AV.b (decide (Int.ofNat k < Int.ofNat L))) (zl (AV.i .i64 (II k))) T.e) (zl
  (AV.b (decide (KK k = (2 : Int)))))) (z0 (zl (AV.b (decide (KK k = (1 : Int))))) (zl (AV.p 3 1))))) (z0 (z1 (AV.i .i64 (putE c s (II k) (XX k))) (z0 (z1 (AV.i .i64 (Int.ofNat L))
  (zl (AV.b (decide (putE c s (II k) (XX k) = (0 : Int))))) T.e) (zl (AV.i .i64 (KK k)))) (z0 (z1 (AV.p 3 0) (zl (AV.b (decide ((3 : Int) < II k)))) T.e) T.e)) (z0 (z0 (z1 (AV.pv 4
  (opF KK II XX TT k)) (zl (AV.b (decide (II k < (0 : Int))))) T.e) (zl (AV.i .i64 (KK k)))) (z0 T.e (zl (AV.p 3 2))))))) { tree := z1 (SS.o (putS c s (II k) (XX k))) (z1 (CS.oa (putC c s (II k) (XX k))) (zl (AObj.cells 75 4 [AV.i .i64 (0 : Int), AV.i .i64 (0 : Int), AV.s [], AV.b false] (z1 (AV.i .i64 (KK k)) (z1 (AV.i .i64 (II k)) (zl (AV.b (TT k))) T.e) (zl (AV.s (XX k)))))) T.e) (zl (AObj.segs 83 4 [{ st := 0, sz := 1, n := 4, f := fun k x => CV.s (hh k) }])), next := 4, log := [0, 1, 3, 3] })
  Orc.z) ∧ (decide ((3 : Int) < II k) = false → True ∧ True ∧ ((0 : Int) ≤ II k ∧ II k < (4 : Int)) ∧ Int.toNat (II k) < 4 ∧ (decide (putE c s (II k) (XX k) = (13 : Int)) = true →
  True ∧ True ∧ Con Tryd.prog 26 [AV.p 0 0, AV.i .i64 (II k), AV.b (TT k)] [some (SS.o (putS c s (II k) (XX k)))] (AV.i .i64 (0 : Int)) [Upd.set (SS.o (revived (putS c s (II k) (XX
  k)) (II k) (TT k)))] ∧ Con Tryd.prog 43 [AV.p 0 0, AV.i .i64 (4 : Int)] [some (SS.o (revived (putS c s (II k) (XX k)) (II k) (TT k)))] (AV.tup [AV.p 1 0, AV.i .i64 (0 : Int)])
  [Upd.keep, Upd.set (CS.oa (opened (revived (putS c s (II k) (XX k)) (II k) (TT k)) 4))] ∧ True ∧ LDoes Tryd.prog (loopAt Tryd.prog 12 1) 148 3 (mkT [(3, AV.p 0 0), (5, AV.p 1 0),
  (7, AV.p 2 0), (9, AV.p 3 0), (10, AV.i .i64 (putE c s (II k) (XX k))), (33, AV.sv 4 L (opF KK II XX TT)), (34, AV.i .i64 (Int.ofNat L)), (35, AV.i .i64 (Int.ofNat k)), (101, AV.i
  .i64 (0 : Int))]) [some (SS.o (revived (putS c s (II k) (XX k)) (II k) (TT k))), some (CS.oa (opened (revived (putS c s (II k) (XX k)) (II k) (TT k)) 4)), some (AObj.segs 83 4 [{ st := 0, sz := 1, n := 4, f := setRow (fun k x => CV.s (hh k)) (Int.toNat (II k)) 0 [CV.s (XX k)] }]),
  some (opO (KK k) (II k) (XX k) (TT k))] (XO.exit 2) (mkT [(3, AV.p 0 0), (5, AV.p 1 0), (7, AV.p 2 0), (33, AV.sv 4 L (opF KK II XX TT)), (34, AV.i .i64 (Int.ofNat L)), (35, AV.i
  .i64 (Int.ofNat k))]) [some (SS.o (revived (putS c s (II k) (XX k)) (II k) (TT k))), some (CS.oa (opened (revived (putS c s (II k) (XX k)) (II k) (TT k)) 4)), some (haveO (gh
  (opened (revived (putS c s (II k) (XX k)) (II k) (TT k)) 4)))] ∧ ((-9223372036854775808 : Int) ≤ Int.ofNat k + (1 : Int) ∧ Int.ofNat k + (1 : Int) ≤ (9223372036854775807 : Int)) ∧
  K (Res.st XO.nrm (z0 (z0 (z1 (AV.p 0 0) (zl (AV.p 2 0)) (z0 (z0 (zl (AV.i .i64 (Int.ofNat k + (1 : Int)))) (z0 (z0 (zl (AV.i .i64 (Int.ofNat k + (1 : Int)))) T.e) T.e)) T.e)) (z1
  (AV.p 4 0) (z0 (z0 (zl (AV.sv 4 L (opF KK II XX TT))) T.e) T.e) T.e)) (z0 T.e (z0 (z0 (z0 (zl (AV.i .i64 (Int.ofNat L))) T.e) T.e) T.e))) { tree := z1 (SS.o (revived (putS c s (II k) (XX k)) (II k) (TT k))) (z1 (CS.oa (putC c s (II k) (XX k))) (z0 T.e T.e) T.e) (z1 (AObj.segs 83 4 [{ st := 0, sz := 1, n := 4, f := fun k_1 x => CV.s (gh (opened (revived (putS c s (II k) (XX k)) (II k) (TT k)) 4) k_1) }]) (zl (CS.oa (opened (revived (putS c s (II k) (XX k)) (II k) (TT k)) 4))) T.e), next := 5, log := [3, 2, 4, 0, 4, 0, 2, 0, 1, 3, 3] })
  Orc.z) ∧ (decide (putE c s (II k) (XX k) = (13 : Int)) = false → LDoes Tryd.prog (loopAt Tryd.prog 12 1) 148 3 (mkT [(3, AV.p 0 0), (5, AV.p 1 0), (7, AV.p 2 0), (9, AV.p 3 0),
  (10, AV.i .i64 (putE c s (II k) (XX k))), (33, AV.sv 4 L (opF KK II XX TT)), (34, AV.i .i64 (Int.ofNat L)), (35, AV.i .i64 (Int.ofNat k)), (101, AV.i .i64 (0 : Int))]) [some (SS.o
  (putS c s (II k) (XX k))), some (CS.oa (putC c s (II k) (XX k))), some (AObj.segs 83 4 [{ st := 0, sz := 1, n := 4, f := setRow (fun k x => CV.s (hh k)) (Int.toNat (II k)) 0 [CV.s (XX k)] }]),
  some (opO (KK k) (II k) (XX k) (TT k))] (XO.exit 2) (mkT [(3, AV.p 0 0), (5, AV.p 1 0), (7, AV.p 2 0), (33, AV.sv 4 L (opF KK II XX TT)), (34, AV.i .i64 (Int.ofNat L)), (35, AV.i
  .i64 (Int.ofNat k))]) [some (SS.o (putS c s (II k) (XX k))), some (CS.oa (putC c s (II k) (XX k))), some (haveO (gh (putC c s (II k) (XX k))))] ∧ ((-9223372036854775808 : Int) ≤
  Int.ofNat k + (1 : Int) ∧ Int.ofNat k + (1 : Int) ≤ (9223372036854775807 : Int)) ∧ K (Res.st XO.nrm (z0 (z0 (z1 (AV.p 0 0) (zl (AV.p 2 0)) (z0 (z0 (zl (AV.i .i64 (Int.ofNat k + (1
  : Int)))) (z0 (z0 (zl (AV.i .i64 (Int.ofNat k + (1 : Int)))) T.e) T.e)) T.e)) (z1 (AV.p 1 0) (z0 (z0 (zl (AV.sv 4 L (opF KK II XX TT))) T.e) T.e) T.e)) (z0 T.e (z0 (z0 (z0 (zl
  (AV.i .i64 (Int.ofNat L))) T.e) T.e) T.e))) { tree := z1 (SS.o (putS c s (II k) (XX k))) (z1 (CS.oa (putC c s (II k) (XX k))) (z0 T.e T.e) T.e) (zl (AObj.segs 83 4 [{ st := 0, sz := 1, n := 4, f := fun k_1 x => CV.s (gh (putC c s (II k) (XX k)) k_1) }])), next := 4, log := [3, 2, 1, 0, 2, 0, 1, 3, 3] })
  Orc.z))) ∧ ((!decide (II k < (0 : Int))) = false → (!decide (II k < (0 : Int))) = false ∧ (!decide (II k < (0 : Int))) = false ∧ decide (II k < (0 : Int)) = true ∧ K (Res.st
  XO.ret (z0 (z0 (z1 (AV.p 0 0) (z1 (AV.p 2 0) (z0 (z0 (zl (AV.s (XX k))) T.e) T.e) (z0 (z1 (AV.agg [AV.i .i64 (KK k), AV.i .i64 (II k), AV.s (XX k), AV.b (TT k)]) (zl (AV.tup []))
  T.e) (zl (AV.b (decide (KK k = (3 : Int))))))) (z0 (z0 (z1 (AV.i .i64 (Int.ofNat k)) (zl (AV.p 3 1)) T.e) (zl (AV.b (decide (KK k = (2 : Int)))))) (z0 (zl (AV.i .i64 (KK k))) (zl
  (AV.p 1 0))))) (z1 (AV.p 1 0) (z1 (AV.p 3 0) (z0 (z1 (AV.sv 4 L (opF KK II XX TT)) (zl (AV.i .i64 (putE c s (II k) (XX k)))) T.e) (zl (AV.p 3 0))) (z0 (z1 (AV.b (decide ((300 :
  Int) < Int.ofNat k))) (zl (AV.tup [])) T.e) T.e)) (z0 (z0 (z1 (AV.i .i64 (Int.ofNat k)) (zl (AV.b (decide (II k < (0 : Int))))) T.e) (zl (AV.p 3 0))) (z0 T.e (zl (AV.i .i64 (II
  k))))))) (z1 (AV.b false) (z0 (z1 (AV.i .i64 (Int.ofNat k)) (z0 (z0 (zl (AV.i .i64 (putE c s (II k) (XX k)))) T.e) T.e) (z0 (z1 (AV.i .i64 (Int.ofNat k)) (zl (AV.tup [])) T.e) (zl
  (AV.b (decide (KK k = (3 : Int))))))) (z0 (z0 (z1 (AV.b (decide (Int.ofNat k < Int.ofNat L))) (zl (AV.i .i64 (II k))) T.e) (zl (AV.b (decide (KK k = (2 : Int)))))) (z0 (zl (AV.b
  (decide (KK k = (1 : Int))))) (zl (AV.p 3 1))))) (z0 (z1 (AV.i .i64 (putE c s (II k) (XX k))) (z0 (z1 (AV.i .i64 (Int.ofNat L)) (zl (AV.b (decide (putE c s (II k) (XX k) = (0 :
  Int))))) T.e) (zl (AV.i .i64 (KK k)))) (z0 (z1 (AV.p 3 0) (zl (AV.b true)) T.e) T.e)) (z0 (z0 (z1 (AV.pv 4 (opF KK II XX TT k)) (zl (AV.b (decide (II k < (0 : Int))))) T.e) (zl
  (AV.i .i64 (KK k)))) (z0 T.e (zl (AV.p 3 2))))))) { tree := z1 (SS.o (putS c s (II k) (XX k))) (z1 (CS.oa (putC c s (II k) (XX k))) (zl (AObj.cells 75 4 [AV.i .i64 (0 : Int), AV.i .i64 (0 : Int), AV.s [], AV.b false] (z1 (AV.i .i64 (KK k)) (z1 (AV.i .i64 (II k)) (zl (AV.b (TT k))) T.e) (zl (AV.s (XX k)))))) T.e) (zl (AObj.segs 83 4 [{ st := 0, sz := 1, n := 4, f := fun k x => CV.s (hh k) }])), next := 4, log := [0, 1, 3, 3] })
  Orc.z)) ∧ (decide (putE c s (II k) (XX k) = (0 : Int)) = false → (decide (putE c s (II k) (XX k) = (13 : Int)) = true → True ∧ True ∧ Con Tryd.prog 26 [AV.p 0 0, AV.i .i64 (II k),
  AV.b (TT k)] [some (SS.o (putS c s (II k) (XX k)))] (AV.i .i64 (0 : Int)) [Upd.set (SS.o (revived (putS c s (II k) (XX k)) (II k) (TT k)))] ∧ Con Tryd.prog 43 [AV.p 0 0, AV.i .i64
  (4 : Int)] [some (SS.o (revived (putS c s (II k) (XX k)) (II k) (TT k)))] (AV.tup [AV.p 1 0, AV.i .i64 (0 : Int)]) [Upd.keep, Upd.set (CS.oa (opened (revived (putS c s (II k) (XX
  k)) (II k) (TT k)) 4))] ∧ True ∧ LDoes Tryd.prog (loopAt Tryd.prog 12 1) 148 3 (mkT [(3, AV.p 0 0), (5, AV.p 1 0), (7, AV.p 2 0), (9, AV.p 3 0), (10, AV.i .i64 (putE c s (II k)
  (XX k))), (33, AV.sv 4 L (opF KK II XX TT)), (34, AV.i .i64 (Int.ofNat L)), (35, AV.i .i64 (Int.ofNat k)), (101, AV.i .i64 (0 : Int))]) [some (SS.o (revived (putS c s (II k) (XX
  k)) (II k) (TT k))), some (CS.oa (opened (revived (putS c s (II k) (XX k)) (II k) (TT k)) 4)), some (AObj.segs 83 4 [{ st := 0, sz := 1, n := 4, f := fun k x => CV.s (hh k) }]),
  some (opO (KK k) (II k) (XX k) (TT k))] (XO.exit 2) (mkT [(3, AV.p 0 0), (5, AV.p 1 0), (7, AV.p 2 0), (33, AV.sv 4 L (opF KK II XX TT)), (34, AV.i .i64 (Int.ofNat L)), (35, AV.i
  .i64 (Int.ofNat k))]) [some (SS.o (revived (putS c s (II k) (XX k)) (II k) (TT k))), some (CS.oa (opened (revived (putS c s (II k) (XX k)) (II k) (TT k)) 4)), some (haveO (gh
  (opened (revived (putS c s (II k) (XX k)) (II k) (TT k)) 4)))] ∧ ((-9223372036854775808 : Int) ≤ Int.ofNat k + (1 : Int) ∧ Int.ofNat k + (1 : Int) ≤ (9223372036854775807 : Int)) ∧
  K (Res.st XO.nrm (z0 (z0 (z1 (AV.p 0 0) (zl (AV.p 2 0)) (z0 (z0 (zl (AV.i .i64 (Int.ofNat k + (1 : Int)))) (z0 (z0 (zl (AV.i .i64 (Int.ofNat k + (1 : Int)))) T.e) T.e)) T.e)) (z1
  (AV.p 4 0) (z0 (z0 (zl (AV.sv 4 L (opF KK II XX TT))) T.e) T.e) T.e)) (z0 T.e (z0 (z0 (z0 (zl (AV.i .i64 (Int.ofNat L))) T.e) T.e) T.e))) { tree := z1 (SS.o (revived (putS c s (II k) (XX k)) (II k) (TT k))) (z1 (CS.oa (putC c s (II k) (XX k))) (z0 T.e T.e) T.e) (z1 (AObj.segs 83 4 [{ st := 0, sz := 1, n := 4, f := fun k_1 x => CV.s (gh (opened (revived (putS c s (II k) (XX k)) (II k) (TT k)) 4) k_1) }]) (zl (CS.oa (opened (revived (putS c s (II k) (XX k)) (II k) (TT k)) 4))) T.e), next := 5, log := [3, 2, 4, 0, 4, 0, 0, 1, 3, 3] })
  Orc.z) ∧ (decide (putE c s (II k) (XX k) = (13 : Int)) = false → LDoes Tryd.prog (loopAt Tryd.prog 12 1) 148 3 (mkT [(3, AV.p 0 0), (5, AV.p 1 0), (7, AV.p 2 0), (9, AV.p 3 0),
  (10, AV.i .i64 (putE c s (II k) (XX k))), (33, AV.sv 4 L (opF KK II XX TT)), (34, AV.i .i64 (Int.ofNat L)), (35, AV.i .i64 (Int.ofNat k)), (101, AV.i .i64 (0 : Int))]) [some (SS.o
  (putS c s (II k) (XX k))), some (CS.oa (putC c s (II k) (XX k))), some (AObj.segs 83 4 [{ st := 0, sz := 1, n := 4, f := fun k x => CV.s (hh k) }]), some (opO (KK k) (II k) (XX k)
  (TT k))] (XO.exit 2) (mkT [(3, AV.p 0 0), (5, AV.p 1 0), (7, AV.p 2 0), (33, AV.sv 4 L (opF KK II XX TT)), (34, AV.i .i64 (Int.ofNat L)), (35, AV.i .i64 (Int.ofNat k))]) [some
  (SS.o (putS c s (II k) (XX k))), some (CS.oa (putC c s (II k) (XX k))), some (haveO (gh (putC c s (II k) (XX k))))] ∧ ((-9223372036854775808 : Int) ≤ Int.ofNat k + (1 : Int) ∧
  Int.ofNat k + (1 : Int) ≤ (9223372036854775807 : Int)) ∧ K (Res.st XO.nrm (z0 (z0 (z1 (AV.p 0 0) (zl (AV.p 2 0)) (z0 (z0 (zl (AV.i .i64 (Int.ofNat k + (1 : Int)))) (z0 (z0 (zl
  (AV.i .i64 (Int.ofNat k + (1 : Int)))) T.e) T.e)) T.e)) (z1 (AV.p 1 0) (z0 (z0 (zl (AV.sv 4 L (opF KK II XX TT))) T.e) T.e) T.e)) (z0 T.e (z0 (z0 (z0 (zl (AV.i .i64 (Int.ofNat
  L))) T.e) T.e) T.e))) { tree := z1 (SS.o (putS c s (II k) (XX k))) (z1 (CS.oa (putC c s (II k) (XX k))) (z0 T.e T.e) T.e) (zl (AObj.segs 83 4 [{ st := 0, sz := 1, n := 4, f := fun k_1 x => CV.s (gh (putC c s (II k) (XX k)) k_1) }])), next := 4, log := [3, 2, 1, 0, 0, 1, 3, 3] })
  Orc.z)))) ∧ ((!decide (KK k = (2 : Int))) = false → (!decide (KK k = (2 : Int))) = false ∧ (!decide (KK k = (2 : Int))) = false ∧ decide (KK k = (2 : Int)) = true ∧ Con Tryd.prog
  24 [AV.p 0 0] [some (SS.o s)] (AV.tup []) [Upd.set (SS.o (fail s))] ∧ True ∧ True ∧ Con Tryd.prog 26 [AV.p 0 0, AV.i .i64 (II k), AV.b (TT k)] [some (SS.o (fail s))] (AV.i .i64 (0
  : Int)) [Upd.set (SS.o (revived (fail s) (II k) (TT k)))] ∧ Con Tryd.prog 43 [AV.p 0 0, AV.i .i64 (4 : Int)] [some (SS.o (revived (fail s) (II k) (TT k)))] (AV.tup [AV.p 1 0, AV.i
  .i64 (0 : Int)]) [Upd.keep, Upd.set (CS.oa (opened (revived (fail s) (II k) (TT k)) 4))] ∧ True ∧ LDoes Tryd.prog (loopAt Tryd.prog 12 1) 148 3 (mkT [(3, AV.p 0 0), (5, AV.p 1 0),
  (7, AV.p 2 0), (9, AV.p 3 0), (10, AV.i .i64 (13 : Int)), (33, AV.sv 4 L (opF KK II XX TT)), (34, AV.i .i64 (Int.ofNat L)), (35, AV.i .i64 (Int.ofNat k)), (101, AV.i .i64 (0 :
  Int))]) [some (SS.o (revived (fail s) (II k) (TT k))), some (CS.oa (opened (revived (fail s) (II k) (TT k)) 4)), some (AObj.segs 83 4 [{ st := 0, sz := 1, n := 4, f := fun k x => CV.s (hh k) }]),
  some (opO (KK k) (II k) (XX k) (TT k))] (XO.exit 2) (mkT [(3, AV.p 0 0), (5, AV.p 1 0), (7, AV.p 2 0), (33, AV.sv 4 L (opF KK II XX TT)), (34, AV.i .i64 (Int.ofNat L)), (35, AV.i
  .i64 (Int.ofNat k))]) [some (SS.o (revived (fail s) (II k) (TT k))), some (CS.oa (opened (revived (fail s) (II k) (TT k)) 4)), some (haveO (gh (opened (revived (fail s) (II k) (TT
  k)) 4)))] ∧ ((-9223372036854775808 : Int) ≤ Int.ofNat k + (1 : Int) ∧ Int.ofNat k + (1 : Int) ≤ (9223372036854775807 : Int)) ∧ K (Res.st XO.nrm (z0 (z0 (z1 (AV.p 0 0) (zl (AV.p 2
  0)) (z0 (z0 (zl (AV.i .i64 (Int.ofNat k + (1 : Int)))) (z0 (z0 (zl (AV.i .i64 (Int.ofNat k + (1 : Int)))) T.e) T.e)) T.e)) (z1 (AV.p 4 0) (z0 (z0 (zl (AV.sv 4 L (opF KK II XX
  TT))) T.e) T.e) T.e)) (z0 T.e (z0 (z0 (z0 (zl (AV.i .i64 (Int.ofNat L))) T.e) T.e) T.e))) { tree := z1 (SS.o (revived (fail s) (II k) (TT k))) (z1 (CS.oa c) (z0 T.e T.e) T.e) (z1 (AObj.segs 83 4 [{ st := 0, sz := 1, n := 4, f := fun k_1 x => CV.s (gh (opened (revived (fail s) (II k) (TT k)) 4) k_1) }]) (zl (CS.oa (opened (revived (fail s) (II k) (TT k)) 4))) T.e), next := 5, log := [3, 2, 4, 0, 4, 0, 0, 3, 3] })
  Orc.z)))) ∧ (decide (Int.ofNat k < Int.ofNat L) = false → K (Res.st (XO.exit 0) (z0 (z0 (z1 (AV.p 0 0) (zl (AV.p 2 0)) (z0 (z0 (zl (AV.i .i64 (Int.ofNat k))) T.e) T.e)) (z1 (AV.p
  1 0) (z0 (z0 (zl (AV.sv 4 L (opF KK II XX TT))) T.e) T.e) T.e)) (z0 (z0 T.e (z0 (z0 (zl (AV.b (decide (Int.ofNat k < Int.ofNat L)))) T.e) T.e)) (z0 (z0 (z0 (zl (AV.i .i64
  (Int.ofNat L))) T.e) T.e) T.e))) { tree := z1 (SS.o s) (zl (CS.oa c)) (zl (AObj.segs 83 4 [{ st := 0, sz := 1, n := 4, f := fun k x => CV.s (hh k) }])), next := 3, log := [] })
  Orc.z)) := by kernel_rfl

end Go.Proofs.Cl

set_option maxRecDepth 20000
namespace Go.Proofs.Cl
open Go Go.Sim Go.Proofs Go.Proofs.Cd Go.Proofs.St Go.Proofs.YtdanngdphoploaaDoor

/-! ### what Open finds behind a write into the older sector -/

theorem nw_q1 {a b : Nat} (h : nwS a b = 0) : nwQ a b = b ∧ (a < b ∨ a = 0 ∧ b = 0) := by
  unfold nwS at h
  by_cases hab : a < b
  · unfold nwQ; rw [lt_ hab]; exact ⟨rfl, .inl hab⟩
  · rw [lf hab] at h
    simp only at h
    by_cases ha : a = 0
    · subst ha
      have : b = 0 := by omega
      subst this
      unfold nwQ; exact ⟨rfl, .inr ⟨rfl, rfl⟩⟩
    · rw [ef ha] at h; cases h
theorem nw_q0 {a b : Nat} (h : nwS a b = 1) : nwQ a b = a ∧ ¬ a < b ∧ a ≠ 0 := by
  unfold nwS at h
  by_cases hab : a < b
  · rw [lt_ hab] at h; cases h
  · rw [lf hab] at h
    simp only at h
    by_cases ha : a = 0
    · subst ha; cases h
    · unfold nwQ; rw [lf hab]; exact ⟨rfl, hab, ha⟩
theorem nw_lt {a b : Nat} (h : a < b) (x y : List Nat) : nwQ a b = b ∧ nwD a b x y = y ∧ nwS a b = 0 := by
  unfold nwQ nwD nwS; rw [lt_ h]; exact ⟨rfl, rfl, rfl⟩
theorem nw_ge {a b : Nat} (h : ¬ a < b) (h0 : a ≠ 0) (x y : List Nat) : nwQ a b = a ∧ nwD a b x y = x ∧ nwS a b = 1 := by
  unfold nwQ nwD nwS; rw [lf h, ef h0]; exact ⟨rfl, rfl, rfl⟩
theorem nw_zz (x y : List Nat) : nwQ 0 0 = 0 ∧ nwD 0 0 x y = x ∧ nwS 0 0 = 0 := ⟨rfl, rfl, rfl⟩
theorem v_zero (s : SS) (a : Nat) (h : vQ s a = 0) : vD s a = [] := by
  unfold vQ at h
  unfold vD
  cases ht : s.torn a with
  | true => rw [cond_true]
  | false =>
    rw [ht, cond_false] at h
    rw [cond_false]
    unfold lkQ at h
    unfold lkD
    cases ho : okB (fun k => (s.dur a k).toNat) with
    | false => rw [cond_false]
    | true =>
      rw [ho, cond_true] at h
      unfold okB at ho
      rw [h] at ho
      simp at ho

/-- A cell behind the write, done or not. -/
theorem nw_after {q0 q1 q0' q1' : Nat} {d0 d1 d0' d1' x : List Nat} (z : q0 = 0 → d0 = [])
    (h : (nwS q0 q1 = 0 ∧ (q1' = q1 ∧ d1' = d1) ∧ ((q0' = nwQ q0 q1 + 1 ∧ d0' = x) ∨ (q0' = 0 ∧ d0' = []) ∨ (q0' = q0 ∧ d0' = d0))) ∨
      (nwS q0 q1 = 1 ∧ (q0' = q0 ∧ d0' = d0) ∧ ((q1' = nwQ q0 q1 + 1 ∧ d1' = x) ∨ (q1' = 0 ∧ d1' = []) ∨ (q1' = q1 ∧ d1' = d1)))) :
    (nwQ q0' q1' = nwQ q0 q1 + 1 ∧ nwD q0' q1' d0' d1' = x ∧ nwS q0' q1' = 1 - nwS q0 q1) ∨
    (nwQ q0' q1' = nwQ q0 q1 ∧ nwD q0' q1' d0' d1' = nwD q0 q1 d0 d1 ∧ nwS q0' q1' = nwS q0 q1) := by
  rcases h with ⟨hs, ⟨rfl, rfl⟩, h⟩ | ⟨hs, ⟨rfl, rfl⟩, h⟩
  · obtain ⟨hq, hc⟩ := nw_q1 hs
    rcases h with ⟨rfl, rfl⟩ | ⟨rfl, rfl⟩ | ⟨rfl, rfl⟩
    · rw [hq, hs]
      exact .inl (nw_ge (by omega) (by omega) _ _)
    · rcases hc with hc | ⟨rfl, rfl⟩
      · have a := nw_lt hc d0 d1'
        have b := nw_lt (show 0 < q1' by omega) [] d1'
        exact .inr ⟨b.1.trans a.1.symm, b.2.1.trans a.2.1.symm, b.2.2.trans a.2.2.symm⟩
      · exact .inr ⟨rfl, (z rfl).symm, rfl⟩
    · exact .inr ⟨rfl, rfl, rfl⟩
  · obtain ⟨hq, hc, h0⟩ := nw_q0 hs
    rcases h with ⟨rfl, rfl⟩ | ⟨rfl, rfl⟩ | ⟨rfl, rfl⟩
    · rw [hq, hs]
      exact .inl (nw_lt (by omega) _ _)
    · have a := nw_ge hc h0 d0' d1
      have b := nw_ge (show ¬ q0' < 0 by omega) h0 d0' []
      exact .inr ⟨b.1.trans a.1.symm, b.2.1.trans a.2.1.symm, b.2.2.trans a.2.2.symm⟩
    · exact .inr ⟨rfl, rfl, rfl⟩
theorem nw_done {q0 q1 q0' q1' : Nat} {d0' d1' x : List Nat}
    (h : (nwS q0 q1 = 0 ∧ q1' = q1 ∧ q0' = nwQ q0 q1 + 1 ∧ d0' = x) ∨ (nwS q0 q1 = 1 ∧ q0' = q0 ∧ q1' = nwQ q0 q1 + 1 ∧ d1' = x)) :
    nwQ q0' q1' = nwQ q0 q1 + 1 ∧ nwD q0' q1' d0' d1' = x ∧ nwS q0' q1' = 1 - nwS q0 q1 := by
  rcases h with ⟨hs, rfl, rfl, rfl⟩ | ⟨hs, rfl, rfl, rfl⟩
  · obtain ⟨hq, hc⟩ := nw_q1 hs
    rw [hq, hs]
    exact nw_ge (by omega) (by omega) _ _
  · obtain ⟨hq, hc, h0⟩ := nw_q0 hs
    rw [hq, hs]
    exact nw_lt (by omega) _ _

theorem sp01 (a b : Nat) : nwS a b = 0 ∨ nwS a b = 1 := by have := nwS_le a b; omega
/-- All cells behind the write. -/
theorem open_after {s s' : SS} {i a q : Nat} {x : List Nat} (hP : s.P = []) (ho : s.off = false) (hn : s.n = 8) (hi : i < 4) (ha : a = i * 2 + opS s i) (hq : q = opQ s i + 1) (h : Aft s s' a q x) :
    (∀ j, j < 4 → j ≠ i → opQ s' j = opQ s j ∧ opD s' j = opD s j ∧ opS s' j = opS s j) ∧
    ((opQ s' i = opQ s i + 1 ∧ opD s' i = x ∧ opS s' i = 1 - opS s i) ∨ (opQ s' i = opQ s i ∧ opD s' i = opD s i ∧ opS s' i = opS s i)) ∧
    (vQ s' a = q → vD s' a = x → opQ s' i = opQ s i + 1 ∧ opD s' i = x ∧ opS s' i = 1 - opS s i) := by
  have old : ∀ j, j < 4 → _ := fun j hj => op_v hP ho (i := j) (by omega)
  have new : ∀ j, j < 4 → _ := fun j hj => op_v h.P h.off (i := j) (by rw [h.n]; omega)
  have sp := sp01 (vQ s (2 * i)) (vQ s (2 * i + 1))
  rw [(old i hi).2.2] at ha
  rw [(old i hi).1] at hq
  subst hq
  refine ⟨fun j hj hne => ?_, ?_, fun h1 h2 => ?_⟩
  · obtain ⟨a1, a2, a3⟩ := old j hj
    obtain ⟨b1, b2, b3⟩ := new j hj
    have k0 := h.other (2 * j) (by omega)
    have k1 := h.other (2 * j + 1) (by omega)
    rw [k0.1, k1.1] at b1 b3
    rw [k0.1, k1.1, k0.2, k1.2] at b2
    exact ⟨b1.trans a1.symm, b2.trans a2.symm, b3.trans a3.symm⟩
  · obtain ⟨a1, a2, a3⟩ := old i hi
    obtain ⟨b1, b2, b3⟩ := new i hi
    rw [a1, a2, a3, b1, b2, b3]
    refine nw_after (v_zero s (2 * i)) ?_
    rcases sp with e | e
    · have : a = 2 * i := by omega
      subst this
      have k1 := h.other (2 * i + 1) (by omega)
      exact .inl ⟨e, k1, h.here⟩
    · have : a = 2 * i + 1 := by omega
      subst this
      have k1 := h.other (2 * i) (by omega)
      exact .inr ⟨e, k1, h.here⟩
  · obtain ⟨a1, a2, a3⟩ := old i hi
    obtain ⟨b1, b2, b3⟩ := new i hi
    rw [a1, a3, b1, b2, b3]
    refine nw_done ?_
    rcases sp with e | e
    · have : a = 2 * i := by omega
      subst this
      exact .inl ⟨e, (h.other (2 * i + 1) (by omega)).1, h1, h2⟩
    · have : a = 2 * i + 1 := by omega
      subst this
      exact .inr ⟨e, (h.other (2 * i) (by omega)).1, h1, h2⟩

end Go.Proofs.Cl

set_option maxRecDepth 20000
namespace Go.Proofs.Cl
open Go Go.Sim Go.Proofs Go.Proofs.Cd Go.Proofs.St Go.Proofs.YtdanngdphoploaaDoor

/-- What holds ahead of each round. -/
structure NvI (k : Nat) (c : CS) (s : SS) : Prop where
  hk : k ≤ 301
  inv : Inv c s k
  n : c.n = 4
  dead : c.dead = false
  off : s.off = false
  P : s.P = []
  sn : s.n = 8
  f : ∀ j, j < 4 → c.q j = opQ s j ∧ c.d j = opD s j ∧ c.sp j = opS s j
  q : ∀ j, j < 4 → c.q j ≤ k

theorem opened_at (s : SS) {j : Nat} (hj : j < 4) : (opened s 4).q j = opQ s j ∧ (opened s 4).d j = opD s j ∧ (opened s 4).sp j = opS s j := by
  refine ⟨?_, ?_, ?_⟩
  · show (bif Nat.blt j 4 then opQ s j else 0) = _
    rw [lt_ hj, cond_true]
  · show (bif Nat.blt j 4 then opD s j else []) = _
    rw [lt_ hj, cond_true]
  · show (bif Nat.blt j 4 then opS s j else 0) = _
    rw [lt_ hj, cond_true]
theorem NvI.opened {s : SS} {k : Nat} (hk : k ≤ 301) (ok : OkM s k) (hb : Byt s) (ho : s.off = false) (hP : s.P = []) (hn : s.n = 8) (hq : ∀ j, j < 4 → opQ s j ≤ k) : NvI k (opened s 4) s :=
  ⟨hk, .opened (by decide) (by rw [hn]; decide) ok hb, rfl, rfl, ho, hP, hn, fun j hj => opened_at s hj, fun j hj => by rw [(opened_at s hj).1]; exact hq j hj⟩
/-- Equal sectors are opened alike. -/
theorem op_eq {s s' : SS} (hP : s.P = []) (ho : s.off = false) (hn : s.n = 8) (hP' : s'.P = []) (ho' : s'.off = false) (hn' : s'.n = 8) (hd : s'.dur = s.dur) (ht : s'.torn = s.torn) {j : Nat} (hj : j < 4) :
    opQ s' j = opQ s j ∧ opD s' j = opD s j ∧ opS s' j = opS s j := by
  have a := op_v hP ho (i := j) (by omega)
  have b := op_v hP' ho' (i := j) (by omega)
  have e1 : vQ s' = vQ s := by funext k; unfold vQ; rw [hd, ht]
  have e2 : vD s' = vD s := by funext k; unfold vD; rw [hd, ht]
  rw [e1, e2] at b
  exact ⟨b.1.trans a.1.symm, b.2.1.trans a.2.1.symm, b.2.2.trans a.2.2.symm⟩
theorem NvI.arm {k : Nat} {c : CS} {s : SS} (h : NvI k c s) (hk : k < 301) {i : Int} (hi : i ≤ 9223372036854775807) : NvI (k + 1) c (s.arm i) := by
  refine ⟨hk, ⟨h.inv.hc, h.inv.hs, h.inv.sp, (h.inv.ok.arm hi).mono (Nat.le_succ k), h.inv.byt.arm i⟩, h.n, h.dead, h.off, h.P, h.sn, fun j hj => ?_, fun j hj => Nat.le_succ_of_le (h.q j hj)⟩
  obtain ⟨a1, a2, a3⟩ := h.f j hj
  obtain ⟨b1, b2, b3⟩ := op_eq (s' := s.arm i) h.P h.off h.sn h.P h.off h.sn rfl rfl hj
  exact ⟨a1.trans b1.symm, a2.trans b2.symm, a3.trans b3.symm⟩
theorem NvI.flat {k : Nat} {c : CS} {s : SS} (h : NvI k c s) (hk : k < 301) (kk : Int) (tt : Bool) :
    NvI (k + 1) (Cl.opened (s.fail.revived kk tt) 4) (s.fail.revived kk tt) ∧ ∀ j, j < 4 → opD (s.fail.revived kk tt) j = c.d j := by
  obtain ⟨f1, f2, f3, f4, f5⟩ := rev_flat h.P kk tt
  have op := fun j hj => op_eq (s' := s.fail.revived kk tt) (j := j) h.P h.off h.sn f3 f2 (by rw [f1]; exact h.sn) f4 f5 hj
  refine ⟨.opened hk ((h.inv.ok.fail.revived kk tt).mono (Nat.le_succ k)) (h.inv.byt.fail.revived kk tt) f2 f3 (by rw [f1]; exact h.sn) fun j hj => ?_, fun j hj => ?_⟩
  · rw [(op j hj).1, ← (h.f j hj).1]; exact Nat.le_succ_of_le (h.q j hj)
  · rw [(op j hj).2.1, ← (h.f j hj).2.1]
theorem NvI.put {k : Nat} {c : CS} {s : SS} (h : NvI k c s) (hk : k < 301) (i : Int) (x : List Nat) (hx : ∀ b ∈ x, b < 256) :
    (c.putE s i x = 2 ∧ c.putC s i x = c ∧ c.putS s i x = s) ∨
    ((0 ≤ i ∧ i < 4) ∧ c.putE s i x = 0 ∧ NvI (k + 1) (c.putC s i x) (c.putS s i x) ∧ ∀ j, (c.putC s i x).d j = tookD c.d i.toNat x j) ∨
    (c.putE s i x = 13 ∧ (c.putS s i x).off = true ∧ OkM (c.putS s i x) (k + 1) ∧ ∀ (kk : Int) (tt : Bool),
      NvI (k + 1) (Cl.opened ((c.putS s i x).revived kk tt) 4) ((c.putS s i x).revived kk tt) ∧ ∀ j, j < 4 → opD ((c.putS s i x).revived kk tt) j = c.d j ∨ (Int.ofNat j = i ∧ opD ((c.putS s i x).revived kk tt) j = x)) := by
  by_cases hb : ¬ (0 ≤ i ∧ i < Int.ofNat c.n) ∨ 51 < x.length
  · exact .inl (put_bad s h.dead hb)
  have hi : 0 ≤ i ∧ i < Int.ofNat c.n := Classical.byContradiction fun g => hb (.inl g)
  have hl : x.length ≤ 51 := Nat.not_lt.mp fun g => hb (.inr g)
  have hi4 : 0 ≤ i ∧ i < 4 := by rw [h.n] at hi; exact hi
  have it : i.toNat < 4 := by omega
  have ei : Int.ofNat i.toNat = i := by simp; omega
  obtain ⟨g1, g2, g3⟩ := h.f i.toNat it
  have hq := h.q i.toNat it
  have iv := h.inv.put i x hx
  rcases put_or h.inv h.dead h.off h.P hi hl (by omega) hx with ⟨e1, e2, e3, e4, e5⟩ | ⟨e1, e2, e3⟩
  · refine .inr (.inl ⟨hi4, e1, ?_, fun j => by rw [e2]; exact Eq.refl _⟩)
    obtain ⟨o1, _, o3⟩ := open_after (i := i.toNat) h.P h.off h.sn it (by rw [g3]) (by rw [g1]) e3
    obtain ⟨n1, n2, n3⟩ := o3 e4 e5
    refine ⟨hk, iv, by rw [e2]; exact h.n, by rw [e2]; exact h.dead, e3.off, e3.P, by rw [e3.n]; exact h.sn, fun j hj => ?_, fun j hj => ?_⟩
    · rw [e2]
      show (bif Nat.beq j i.toNat then c.q i.toNat + 1 else c.q j) = _ ∧ (bif Nat.beq j i.toNat then x else c.d j) = _ ∧ (bif Nat.beq j i.toNat then 1 - c.sp i.toNat else c.sp j) = _
      by_cases e : j = i.toNat
      · rw [e, Nat.beq_refl, cond_true, cond_true, cond_true, g1, g3]
        exact ⟨n1.symm, n2.symm, n3.symm⟩
      · rw [ef e, cond_false, cond_false, cond_false]
        obtain ⟨a1, a2, a3⟩ := h.f j hj
        obtain ⟨b1, b2, b3⟩ := o1 j hj e
        exact ⟨a1.trans b1.symm, a2.trans b2.symm, a3.trans b3.symm⟩
    · rw [e2]
      show (bif Nat.beq j i.toNat then c.q i.toNat + 1 else c.q j) ≤ k + 1
      cases Nat.beq j i.toNat with
      | true => rw [cond_true]; omega
      | false => rw [cond_false]; have := h.q j hj; omega
  · refine .inr (.inr ⟨e1, e2, iv.ok, fun kk tt => ?_⟩)
    have af := e3.rev e2 kk tt (by omega) (by omega) hl hx
    obtain ⟨o1, o2, _⟩ := open_after (i := i.toNat) h.P h.off h.sn it (by rw [g3]) (by rw [g1]) af
    refine ⟨.opened hk (iv.ok.revived kk tt) (iv.byt.revived kk tt) af.off af.P (by rw [af.n]; exact h.sn) fun j hj => ?_, fun j hj => ?_⟩
    · by_cases e : j = i.toNat
      · rw [e]
        rcases o2 with ⟨m1, _, _⟩ | ⟨m1, _, _⟩ <;> rw [m1, ← g1] <;> omega
      · rw [(o1 j hj e).1, ← (h.f j hj).1]; have := h.q j hj; omega
    · by_cases e : j = i.toNat
      · rw [e]
        rcases o2 with ⟨_, m, _⟩ | ⟨_, m, _⟩
        · exact .inr ⟨ei, m⟩
        · exact .inl (by rw [m, ← g2])
      · exact .inl (by rw [(o1 j hj e).2.1, ← (h.f j hj).2.1])

theorem have_setV (h : Nat → List Nat) (k : Nat) (d : List Nat) : OV (some (.segs 83 4 [⟨0, 1, 4, setRow (fun k _ => .s (h k)) k 0 [.s d]⟩])) (some (haveO (tookD h k d))) := by
  refine .segsW ⟨⟨rfl, rfl, rfl, fun i j hi hj => ?_⟩, trivial⟩
  have hj : j < 1 := hj
  have : j = 0 := by omega
  subst this
  exact .of (Eq.refl _)
theorem gh_at {c : CS} {j : Nat} (hn : c.n = 4) (hj : j < 4) : gh c j = c.d j := getD_in (by rw [hn]; exact hj)

theorem nevL_lp (L : Nat) (KK II : Nat → Int) (XX : Nat → List Nat) (TT : Nat → Bool) (hX : ∀ i, ∀ b ∈ XX i, b < 256) (hI : ∀ i, II i ≤ 9223372036854775807) (h0 : NvI 0 gk0 gw0) :
    LDoes Tryd.prog (loopAt Tryd.prog 12 0) 148 0 (mkT [(3, .p 0 0), (5, .p 1 0), (7, .p 2 0), (33, .sv 4 L (opF KK II XX TT)), (34, .i .i64 (Int.ofNat L)), (35, .i .i64 0)]) [some gw0.o, some gk0.oa, some (haveO (gh gk0))] (.exit 0) (mkT []) [] := by
  refine loop_ind (D := Nat × CS × SS) (l' := []) (fun e => ([(3, .p 0 0), (5, .p 1 0), (7, .p 2 0), (33, .sv 4 L (opF KK II XX TT)), (34, .i .i64 (Int.ofNat L)), (35, .i .i64 (Int.ofNat e.1))], [some e.2.2.o, some e.2.1.oa, some (haveO (gh e.2.1))])) (fun e => 400 - e.1)
    (fun e => NvI e.1 e.2.1 e.2.2) ?_ (0, gk0, gw0) h0
  rintro ⟨k, c, s⟩ hI0
  simp only at hI0
  have hc : c.n ≤ 256 := hI0.inv.hc
  refine ⟨Nat.zero_le _, 1000000, ?_⟩
  have fin : ∀ (c' : CS) (s' : SS) σ tm1 H1, NvI (k + 1) c' s' → StIs 0 σ [] tm1 H1 [(3, .p 0 0), (5, .p 1 0), (7, .p 2 0), (33, .sv 4 L (opF KK II XX TT)), (34, .i .i64 (Int.ofNat L)), (35, .i .i64 (Int.ofNat (k + 1)))] [some s'.o, some c'.oa, some (haveO (gh c'))] →
      k < 301 → RoundIs 0 (fun e : Nat × CS × SS => ([(3, .p 0 0), (5, .p 1 0), (7, .p 2 0), (33, .sv 4 L (opF KK II XX TT)), (34, .i .i64 (Int.ofNat L)), (35, .i .i64 (Int.ofNat e.1))], [some e.2.2.o, some e.2.1.oa, some (haveO (gh e.2.1))])) (fun e => 400 - e.1) (fun e => NvI e.1 e.2.1 e.2.2) (.exit 0) [] [] (k, c, s) (.st .nrm tm1 H1) :=
    fun c' s' σ tm1 H1 hg hst hlt => .inl ⟨(k + 1, c', s'), σ, [], _, _, hg, by simp only; omega, rfl, hst⟩
  have ext : ∀ tm1 H1, StIs 0 [] [] tm1 H1 [] [] → RoundIs 0 (fun e : Nat × CS × SS => ([(3, .p 0 0), (5, .p 1 0), (7, .p 2 0), (33, .sv 4 L (opF KK II XX TT)), (34, .i .i64 (Int.ofNat L)), (35, .i .i64 (Int.ofNat e.1))], [some e.2.2.o, some e.2.1.oa, some (haveO (gh e.2.1))])) (fun e => 400 - e.1) (fun e => NvI e.1 e.2.1 e.2.2) (.exit 0) [] [] (k, c, s) (.st (.exit 0) tm1 H1) :=
    fun tm1 H1 hst => .inr ⟨[], [], _, _, rfl, by simp, hst⟩
  refine ⟨_, (neverR_vc c s L k KK II XX TT (gh c) _).mpr ⟨fun hlt => ?_, fun hge => ext _ _ (st_is [] (by kernel_rfl) rfl rfl rfl trivial rfl)⟩⟩
  have hlt : k < L := by have := of_decide_eq_true hlt; simp at this; omega
  refine ⟨⟨by simp, by simp; omega⟩, trivial, fun h => ext _ _ (st_is [] (by kernel_rfl) rfl rfl rfl trivial rfl), fun h300 => ?_⟩
  have hk3 : k < 301 := by have := of_decide_eq_false h300; simp at this; omega
  have rg : (-9223372036854775808 : Int) ≤ Int.ofNat k + (1 : Int) ∧ Int.ofNat k + (1 : Int) ≤ (9223372036854775807 : Int) := by simp <;> omega
  -- a store that just failed, with nothing pending
  obtain ⟨flI, flD⟩ := hI0.flat hk3 (II k) (TT k)
  have flE : s.fail.revE = 0 := rfl
  have flR : Con Tryd.prog 26 [.p 0 0, .i .i64 (II k), .b (TT k)] [some s.fail.o] (.i .i64 0) [.set (s.fail.revived (II k) (TT k)).o] :=
    revive_con s.fail (II k) (TT k) (by show s.P.length ≤ _; rw [hI0.P]; decide) (fun q hq => by have hq : q ∈ s.P := hq; rw [hI0.P] at hq; cases hq)
  have flO : Con Tryd.prog 43 [.p 0 0, .i .i64 4] [some (s.fail.revived (II k) (TT k)).o] (.tup [.p 1 0, .i .i64 0]) [.keep, .set (opened (s.fail.revived (II k) (TT k)) 4).oa] :=
    open_con _ 4 (by decide) (by decide) (by rw [flI.sn]; decide) (by rw [flI.sn]; decide) flI.off flI.inv.byt
  have flM : ∀ (f0 : Int) j, j < 4 → MayBe (opened (s.fail.revived (II k) (TT k)) 4) (gh c) (KK k) (II k) f0 (XX k) j := fun f0 j hj => .inl (by
    have e : (opened (s.fail.revived (II k) (TT k)) 4).getD (Int.ofNat j) = (opened (s.fail.revived (II k) (TT k)) 4).d j := gh_at rfl hj
    rw [e, (opened_at _ hj).2.1, flD j hj, gh_at hI0.n hj])
  have lp := fun (c' : CS) (s' : SS) (h' : Nat → List Nat) (f0 : Int) (hc' : c'.n ≤ 256) (hm : ∀ j, j < 4 → MayBe c' h' (KK k) (II k) f0 (XX k) j) => nevI_lp c' s' L k KK II XX TT h' (KK k) (II k) f0 (XX k) (TT k) hc' hm
  refine ⟨trivial, fun h1 => ⟨trivial, arm2_con s (II k), rg, ?_⟩, fun h1 => ⟨trivial, fun h2 => ⟨trivial, h2, h2, by simpa using h2, fun h3 => ⟨fail2_con s, trivial, trivial, flR, flO, trivial, lp _ _ _ _ (by show (4 : Nat) ≤ 256; decide) (flM _), rg, ?_⟩, fun h3 => ⟨trivial, trivial, hI0.inv.put_con (by omega) (II k) (XX k) (hX k), ?_⟩⟩, fun h2 => ⟨h2, h2, by simpa using h2, fail2_con s, trivial, trivial, flR, flO, trivial, lp _ _ _ _ (by show (4 : Nat) ≤ 256; decide) (flM _), rg, ?_⟩⟩⟩
  · exact fin c (s.arm (II k)) [0, 1, 2] _ _ (hI0.arm hk3 (hI k)) (st_is [0, 1, 2] (by kernel_rfl) rfl rfl rfl ⟨by kernel_rfl, by kernel_rfl, by kernel_rfl, by kernel_rfl, by kernel_rfl, by kernel_rfl, trivial⟩ rfl) hk3
  · exact fin _ _ [0, 4, 2] _ _ flI (st_is [0, 4, 2] (by kernel_rfl) rfl rfl rfl ⟨by kernel_rfl, by kernel_rfl, by kernel_rfl, by kernel_rfl, by kernel_rfl, by kernel_rfl, trivial⟩ rfl) hk3
  rotate_left
  · exact fin _ _ [0, 4, 2] _ _ flI (st_is [0, 4, 2] (by kernel_rfl) rfl rfl rfl ⟨by kernel_rfl, by kernel_rfl, by kernel_rfl, by kernel_rfl, by kernel_rfl, by kernel_rfl, trivial⟩ rfl) hk3
  have h2' : KK k ≠ 2 := by simpa using h2
  have h3' : KK k ≠ 3 := of_decide_eq_false h3
  have no : ∀ {a b : Int}, a ≠ b → decide (a = b) = true → False := fun h g => h (of_decide_eq_true g)
  have yes : ∀ {a b : Int}, a = b → decide (a = b) = false → False := fun h g => of_decide_eq_false g h
  rcases hI0.put hk3 (II k) (XX k) (hX k) with ⟨p1, p2, p3⟩ | ⟨hi, p1, p2, p3⟩ | ⟨p1, p2, p3, p4⟩
  · have p1' : putE c s (II k) (XX k) = 2 := p1
    refine ⟨fun e => (no (by rw [p1']; decide) e).elim, fun _ => ⟨fun e => (no (by rw [p1']; decide) e).elim, fun _ => ⟨?_, rg, ?_⟩⟩⟩
    · have e1 : putC c s (II k) (XX k) = c := p2
      have e2 : putS c s (II k) (XX k) = s := p3
      rw [e1, e2]
      exact lp c s _ _ hc fun j hj => .inl rfl
    · have g : NvI (k + 1) (putC c s (II k) (XX k)) (putS c s (II k) (XX k)) := by
        rw [show putC c s (II k) (XX k) = c from p2, show putS c s (II k) (XX k) = s from p3]
        exact ⟨hk3, hI0.inv.mono (Nat.le_succ k), hI0.n, hI0.dead, hI0.off, hI0.P, hI0.sn, hI0.f, fun j hj => Nat.le_succ_of_le (hI0.q j hj)⟩
      exact fin _ _ [0, 1, 2] _ _ g (st_is [0, 1, 2] (by kernel_rfl) rfl rfl rfl ⟨by kernel_rfl, by kernel_rfl, by kernel_rfl, by kernel_rfl, by kernel_rfl, by kernel_rfl, trivial⟩ rfl) hk3
  · have p1' : putE c s (II k) (XX k) = 0 := p1
    refine ⟨fun _ => ⟨trivial, fun hi0 => ⟨trivial, hi0, hi0, by simpa using hi0, fun h => absurd (of_decide_eq_true h) (by omega), fun _ => ⟨trivial, trivial, hi, by omega, fun e => (no (by rw [p1']; decide) e).elim, fun _ => ⟨?_, rg, ?_⟩⟩⟩, fun h => absurd h (by simp; omega)⟩, fun e => (yes p1' e).elim⟩
    · refine (lp (c.putC s (II k) (XX k)) (c.putS s (II k) (XX k)) (tookD (gh c) (II k).toNat (XX k)) _ p2.inv.hc fun j hj => .inl ?_).ovl ⟨.refl _, .refl _, have_setV _ _ _, .refl _, trivial⟩
      have e : (c.putC s (II k) (XX k)).getD (Int.ofNat j) = (c.putC s (II k) (XX k)).d j := gh_at p2.n hj
      rw [e, p3 j]
      show (bif Nat.beq j (II k).toNat then XX k else c.d j) = (bif Nat.beq j (II k).toNat then XX k else gh c j)
      rw [gh_at hI0.n hj]
    · exact fin _ _ [0, 1, 2] _ _ p2 (st_is [0, 1, 2] (by kernel_rfl) rfl rfl rfl ⟨by kernel_rfl, by kernel_rfl, by kernel_rfl, by kernel_rfl, by kernel_rfl, by kernel_rfl, trivial⟩ rfl) hk3
  · have p1' : putE c s (II k) (XX k) = 13 := p1
    obtain ⟨r1, r2⟩ := p4 (II k) (TT k)
    refine ⟨fun e => (no (by rw [p1']; decide) e).elim, fun _ => ⟨fun _ => ⟨trivial, trivial, ?_, open_con _ 4 (by decide) (by decide) (by show 2 * 4 ≤ ((c.putS s (II k) (XX k)).revived (II k) (TT k)).n; rw [r1.sn]; decide) (by show ((c.putS s (II k) (XX k)).revived (II k) (TT k)).n ≤ 512; rw [r1.sn]; decide) r1.off r1.inv.byt, trivial, ?_, rg, ?_⟩, fun e => (yes p1' e).elim⟩⟩
    · have e : (c.putS s (II k) (XX k)).revE = 0 := by unfold SS.revE; rw [p2]; rfl
      have h := revive_con (c.putS s (II k) (XX k)) (II k) (TT k) (by have := p3.P; omega) (fun q hq => Nat.lt_of_lt_of_le (p3.at_ q hq) p3.n)
      rw [e] at h
      exact h
    · refine lp _ _ (gh c) _ (by show (4 : Nat) ≤ 256; decide) fun j hj => ?_
      have e : (opened ((c.putS s (II k) (XX k)).revived (II k) (TT k)) 4).getD (Int.ofNat j) = (opened ((c.putS s (II k) (XX k)).revived (II k) (TT k)) 4).d j := gh_at rfl hj
      rw [(opened_at _ hj).2.1] at e
      rcases r2 j hj with m | ⟨m1, m2⟩
      · exact .inl (e.trans (m.trans (gh_at hI0.n hj).symm))
      · exact .inr ⟨p1', h2', h3', m1, e.trans m2⟩
    · exact fin _ _ [0, 4, 2] _ _ r1 (st_is [0, 4, 2] (by kernel_rfl) rfl rfl rfl ⟨by kernel_rfl, by kernel_rfl, by kernel_rfl, by kernel_rfl, by kernel_rfl, by kernel_rfl, trivial⟩ rfl) hk3

theorem never_vc (L : Nat) (KK II : Nat → Int) (XX : Nat → List Nat) (TT : Nat → Bool) (K : Res → Orc → Prop) : runK Tryd.prog 1000000 (.call 12 [.sv 4 L (opF KK II XX TT)] (mkH
  [])) (Orc.cal [] (AV.b true) [] (Orc.c (Orc.cal [] (AV.tup [AV.p 0 0, AV.i .i64 (0 : Int)]) [Upd.set (SS.o gw0)] (Orc.cal [0] (AV.tup [AV.p 1 0, AV.i .i64 (0 : Int)]) [Upd.keep,
  Upd.set (CS.oa gk0)] (Orc.c (Orc.c (Orc.c (Orc.c (Orc.lop [0, 1, 2] [3, 5, 7, 33, 34, 35] 0 (XO.exit 0) [] [] Orc.z))))))))) K = (Con Tryd.prog 44 [] [] (AV.b true) [] ∧ True ∧
  Con Tryd.prog 14 [AV.i .i64 (8 : Int)] [] (AV.tup [AV.p 0 0, AV.i .i64 (0 : Int)]) [Upd.set (SS.o gw0)] ∧ Con Tryd.prog 43 [AV.p 0 0, AV.i .i64 (4 : Int)] [some (SS.o gw0)]
  (AV.tup [AV.p 1 0, AV.i .i64 (0 : Int)]) [Upd.keep, Upd.set (CS.oa gk0)] ∧ True ∧ LDoes Tryd.prog (loopAt Tryd.prog 12 0) 148 0 (mkT [(3, AV.p 0 0), (5, AV.p 1 0), (7, AV.p 2 0),
  (33, AV.sv 4 L (opF KK II XX TT)), (34, AV.i .i64 (Int.ofNat L)), (35, AV.i .i64 (0 : Int))]) [some (SS.o gw0), some (CS.oa gk0), some (AObj.cells 83 4 [AV.s [], AV.s [], AV.s [],
  AV.s []] T.e)] (XO.exit 0) (mkT []) [] ∧ K (Res.rv (AV.b true) { tree := z0 (z0 T.e T.e) (z0 T.e T.e), next := 3, log := [2, 1, 0, 2, 1, 0] }) Orc.z) := by kernel_rfl

theorem never0 : NvI 0 gk0 gw0 := by
  refine .opened (by decide) (OkM.new (by decide)) (Byt.new 8) rfl rfl rfl fun j hj => ?_
  have e0 : opQ (SS.new 8) 0 = 0 := by kernel_rfl
  have e1 : opQ (SS.new 8) 1 = 0 := by kernel_rfl
  have e2 : opQ (SS.new 8) 2 = 0 := by kernel_rfl
  have e3 : opQ (SS.new 8) 3 = 0 := by kernel_rfl
  show opQ (SS.new 8) j ≤ 0
  have : j = 0 ∨ j = 1 ∨ j = 2 ∨ j = 3 := by omega
  rcases this with rfl | rfl | rfl | rfl
  · rw [e0]; exact Nat.le_refl 0
  · rw [e1]; exact Nat.le_refl 0
  · rw [e2]; exact Nat.le_refl 0
  · rw [e3]; exact Nat.le_refl 0
theorem gh0 (j : Nat) (hj : j < 4) : gh gk0 j = [] := by
  have e0 : gh gk0 0 = [] := by kernel_rfl
  have e1 : gh gk0 1 = [] := by kernel_rfl
  have e2 : gh gk0 2 = [] := by kernel_rfl
  have e3 : gh gk0 3 = [] := by kernel_rfl
  have : j = 0 ∨ j = 1 ∨ j = 2 ∨ j = 3 := by omega
  rcases this with rfl | rfl | rfl | rfl
  · exact e0
  · exact e1
  · exact e2
  · exact e3
theorem have0 : OX (some (.cells 83 4 [.s [], .s [], .s [], .s []] .e)) (some (haveO (gh gk0))) := by
  refine OX.cellsSegs fun g hg => ?_
  rw [List.mem_singleton] at hg
  subst hg
  refine ⟨by decide, fun i j hi hj => ?_⟩
  have hi : i < 4 := hi
  have hj : j < 1 := hj
  have : j = 0 := by omega
  subst this
  refine ⟨.s [], ?_, fun ρ x h => ?_⟩
  · have : i = 0 ∨ i = 1 ∨ i = 2 ∨ i = 3 := by omega
    rcases this with rfl | rfl | rfl | rfl <;> rfl
  · show CR ρ.ro (.s (gh gk0 i)) x
    rw [gh0 i hi]
    cases h with | s _ z e => exact .s _ z e
theorem never_con (L : Nat) (KK II : Nat → Int) (XX : Nat → List Nat) (TT : Nat → Bool) (hX : ∀ i, ∀ b ∈ XX i, b < 256) (hI : ∀ i, II i ≤ 9223372036854775807) : Con Tryd.prog 12 [.sv 4 L (opF KK II XX TT)] [] (.b true) [] :=
  con_plain rfl ((never_vc L KK II XX TT _).mpr ⟨awake_con, trivial, new_con 8 (by decide) (by decide), open_con gw0 4 (by decide) (by decide) (by decide) (by decide) rfl (Byt.new 8), trivial, (nevL_lp L KK II XX TT hX hI never0).ovl ⟨.refl _, .refl _, .x have0, trivial⟩, _, _, rfl, rfl⟩)

end Go.Proofs.Cl
