/- Runs over unknown values, told by the kernel: part ClB. -/
import Derived.Test.YtdanngdphoploaaDoorClA
set_option linter.unusedSimpArgs false
set_option linter.unusedVariables false
namespace Go.Proofs.Cl
open Go Go.Sim Go.Proofs Go.Proofs.Cd Go.Proofs.St Go.Proofs.YtdanngdphoploaaDoor
/-- A script's calls. -/
noncomputable def opF (K I : Nat → Int) (X : Nat → List Nat) (T : Nat → Bool) : Nat → Nat → CV := fun i j => match j with
  | 0 => .i .i64 (K i)
  | 1 => .i .i64 (I i)
  | 2 => .s (X i)
  | _ => .b (T i)
/-- A call's block, and that of four cells. -/
noncomputable def opO (k i : Int) (x : List Nat) (t : Bool) : AObj := .cells 75 4 [.i .i64 0, .i .i64 0, .s [], .b false] (setAll .e 0 [.i .i64 k, .i .i64 i, .s x, .b t])
noncomputable def wasO (a : Nat → Nat) (d : Nat → List Nat) : AObj :=
  .cells 85 8 [.i .i64 0, .s [], .i .i64 0, .s [], .i .i64 0, .s [], .i .i64 0, .s []] (setAll .e 0 [.i .i64 (Int.ofNat (a 0)), .s (d 0), .i .i64 (Int.ofNat (a 1)), .s (d 1), .i .i64 (Int.ofNat (a 2)), .s (d 2), .i .i64 (Int.ofNat (a 3)), .s (d 3)])
end Go.Proofs.Cl

set_option maxRecDepth 20000
namespace Go.Proofs.Cl
open Go Go.Sim Go.Proofs Go.Proofs.Cd Go.Proofs.St Go.Proofs.YtdanngdphoploaaDoor

/-! ### the four cells looked at behind a Put -/

theorem grow0_vc (c : CS) (s : SS) (L k : Nat) (KK II : Nat → Int) (XX : Nat → List Nat) (TT : Nat → Bool) (a : Nat → Nat) (d : Nat → List Nat) (kk i : Int) (x : List Nat) (gd tt :
  Bool) (K : Res → Orc → Prop) : runK Tryd.prog 1000000 (.code (loopAt Tryd.prog 13 2) 125 (mkT [(5, .p 1 0), (8, .p 2 0), (9, .p 3 0), (12, .b gd), (32, .sv 4 L (opF KK II XX TT)),
  (33, .i .i64 (Int.ofNat L)), (34, .i .i64 (Int.ofNat k)), (82, .i .i64 0)]) (mkH [some s.o, some c.oa, some (opO kk i x tt), some (wasO a d)])) (Orc.c (Orc.s (Orc.t (Orc.t (Orc.t
  (Orc.t (Orc.s (Orc.c (Orc.c (Orc.cal [1, 0] (AV.agg [AV.i IntKind.i64 (Int.ofNat (CS.getQ c (0 : Int))), AV.s (CS.getD c (0 : Int))]) [Upd.keep, Upd.keep] (Orc.c (Orc.s Orc.z
  Orc.z))))) (Orc.cal [1, 0] (AV.agg [AV.i IntKind.i64 (Int.ofNat (CS.getQ c (0 : Int))), AV.s (CS.getD c (0 : Int))]) [Upd.keep, Upd.keep] (Orc.c (Orc.s Orc.z Orc.z)))))))) (Orc.f
  (Orc.f (Orc.f (Orc.f (Orc.c (Orc.cal [1, 0] (AV.agg [AV.i IntKind.i64 (Int.ofNat (CS.getQ c (0 : Int))), AV.s (CS.getD c (0 : Int))]) [Upd.keep, Upd.keep] (Orc.c (Orc.s Orc.z
  Orc.z)))))))))) K = ((gd = true → gd = true ∧ True ∧ gd = true ∧ gd = true ∧ gd = true ∧ (decide ((0 : Int) = i) = true → True ∧ ((-9223372036854775808 : Int) ≤ Int.ofNat (a 0) +
  (1 : Int) ∧ Int.ofNat (a 0) + (1 : Int) ≤ (9223372036854775807 : Int)) ∧ True ∧ Con Tryd.prog 49 [AV.p 0 0, AV.i IntKind.i64 (0 : Int)] [some (CS.o c), some (SS.o s)] (AV.agg
  [AV.i IntKind.i64 (Int.ofNat (CS.getQ c (0 : Int))), AV.s (CS.getD c (0 : Int))]) [Upd.keep, Upd.keep] ∧ True ∧ ((!(decide (Int.ofNat (CS.getQ c (0 : Int)) = Int.ofNat (a 0) + (1
  : Int)) && (natsEq (CS.getD c (0 : Int)) x && true))) = true → K (Res.st XO.ret (T.n none (T.n none (T.n none (T.n none (T.n none (T.n none T.e (T.n (some (AV.p 3 0)) T.e T.e))
  T.e) (T.n none (T.n none T.e (T.n (some (AV.i IntKind.i64 (0 : Int))) T.e T.e)) (T.n none (T.n (some (AV.i IntKind.i64 (0 : Int))) T.e T.e) T.e))) (T.n none (T.n none (T.n none
  T.e (T.n (some (AV.s x)) T.e T.e)) (T.n none (T.n (some (AV.b true)) T.e T.e) T.e)) (T.n none (T.n none T.e (T.n (some (AV.agg [AV.i IntKind.i64 (Int.ofNat (a 0) + (1 : Int)),
  AV.s x])) T.e T.e)) (T.n none (T.n (some (AV.b (decide ((0 : Int) = i)))) T.e T.e) T.e)))) (T.n (some (AV.p 1 0)) (T.n (some (AV.p 3 0)) (T.n none (T.n (some (AV.i IntKind.i64
  (Int.ofNat L))) T.e (T.n (some (AV.i IntKind.i64 (Int.ofNat (a 0) + (1 : Int)))) T.e T.e)) T.e) (T.n none (T.n none T.e (T.n (some (AV.i IntKind.i64 (0 : Int))) T.e T.e)) (T.n
  none (T.n (some (AV.i IntKind.i64 i)) T.e T.e) T.e))) (T.n (some (AV.i IntKind.i64 (0 : Int))) (T.n none (T.n none T.e (T.n (some (AV.p 3 0)) T.e T.e)) (T.n none (T.n (some (AV.b
  gd)) T.e T.e) T.e)) (T.n none T.e (T.n none (T.n (some (AV.i IntKind.i64 (0 : Int))) T.e T.e) T.e))))) (T.n (some (AV.b false)) (T.n none (T.n (some (AV.p 2 0)) (T.n none (T.n
  (some (AV.sv 4 L (opF KK II XX TT))) T.e (T.n (some (AV.i IntKind.i64 (Int.ofNat (a 0)))) T.e T.e)) T.e) (T.n none (T.n none T.e (T.n (some (AV.agg [AV.i IntKind.i64 (Int.ofNat
  (CS.getQ c (0 : Int))), AV.s (CS.getD c (0 : Int))])) T.e T.e)) (T.n none (T.n (some (AV.p 2 1)) T.e T.e) T.e))) (T.n (some (AV.b gd)) (T.n none (T.n none T.e (T.n (some (AV.agg
  [AV.i IntKind.i64 (Int.ofNat (a 0) + (1 : Int)), AV.s x])) T.e T.e)) (T.n none (T.n (some (AV.i IntKind.i64 (0 : Int))) T.e T.e) T.e)) (T.n none (T.n none T.e (T.n (some (AV.b
  !(decide (Int.ofNat (CS.getQ c (0 : Int)) = Int.ofNat (a 0) + (1 : Int)) && (natsEq (CS.getD c (0 : Int)) x && true)))) T.e T.e)) (T.n none (T.n (some (AV.i IntKind.i64 (0 :
  Int))) T.e T.e) T.e)))) (T.n none (T.n none (T.n none (T.n (some (AV.i IntKind.i64 (Int.ofNat k))) T.e (T.n (some (AV.p 2 2)) T.e T.e)) (T.n none (T.n (some (AV.i IntKind.i64 (0 :
  Int))) T.e T.e) T.e)) (T.n none (T.n none T.e (T.n (some (AV.p 3 0)) T.e T.e)) (T.n none (T.n (some (AV.b (decide ((0 : Int) = i)))) T.e T.e) T.e))) (T.n none (T.n none (T.n none
  T.e (T.n (some (AV.p 1 0)) T.e T.e)) (T.n none (T.n (some (AV.b gd)) T.e T.e) T.e)) (T.n none T.e (T.n none (T.n (some (AV.p 3 0)) T.e T.e) T.e)))))) { tree := T.n (some (SS.o s)) (T.n (some (CS.oa c)) (T.n (some (AObj.cells 85 8 [AV.i IntKind.i64 (0 : Int), AV.s [], AV.i IntKind.i64 (0 : Int), AV.s [], AV.i IntKind.i64 (0 : Int), AV.s [], AV.i IntKind.i64 (0 : Int), AV.s []] (T.n (some (AV.i IntKind.i64 (Int.ofNat (a 0) + (1 : Int)))) (T.n (some (AV.s x)) (T.n (some (AV.s (d 1))) (T.n (some (AV.s (d 3))) T.e T.e) T.e) (T.n (some (AV.s (d 2))) T.e T.e)) (T.n (some (AV.i IntKind.i64 (Int.ofNat (a 1)))) (T.n (some (AV.i IntKind.i64 (Int.ofNat (a 2)))) T.e T.e) (T.n (some (AV.i IntKind.i64 (Int.ofNat (a 3)))) T.e T.e))))) T.e T.e) T.e) (T.n (some (AObj.cells 75 4 [AV.i IntKind.i64 (0 : Int), AV.i IntKind.i64 (0 : Int), AV.s [], AV.b false] (T.n (some (AV.i IntKind.i64 kk)) (T.n (some (AV.i IntKind.i64 i)) (T.n (some (AV.b tt)) T.e T.e) T.e) (T.n (some (AV.s x)) T.e T.e)))) T.e T.e), next := 4, log := [3] })
  Orc.z) ∧ ((!(decide (Int.ofNat (CS.getQ c (0 : Int)) = Int.ofNat (a 0) + (1 : Int)) && (natsEq (CS.getD c (0 : Int)) x && true))) = false → ((-9223372036854775808 : Int) ≤ (1 :
  Int) ∧ (1 : Int) ≤ (9223372036854775807 : Int)) ∧ K (Res.st XO.nrm (T.n none (T.n none (T.n none (T.n none (T.n none (T.n none T.e (T.n (some (AV.p 3 0)) T.e T.e)) T.e) (T.n none
  (T.n none T.e (T.n (some (AV.i IntKind.i64 (0 : Int))) T.e T.e)) (T.n none (T.n (some (AV.i IntKind.i64 (0 : Int))) T.e T.e) T.e))) (T.n none (T.n none (T.n none T.e (T.n (some
  (AV.s x)) T.e T.e)) (T.n none (T.n (some (AV.b true)) T.e T.e) T.e)) (T.n none (T.n none T.e (T.n (some (AV.agg [AV.i IntKind.i64 (Int.ofNat (a 0) + (1 : Int)), AV.s x])) T.e
  T.e)) (T.n none (T.n (some (AV.b (decide ((0 : Int) = i)))) T.e T.e) T.e)))) (T.n (some (AV.p 1 0)) (T.n (some (AV.p 3 0)) (T.n none (T.n (some (AV.i IntKind.i64 (Int.ofNat L)))
  T.e (T.n (some (AV.i IntKind.i64 (Int.ofNat (a 0) + (1 : Int)))) T.e T.e)) T.e) (T.n none (T.n none T.e (T.n (some (AV.i IntKind.i64 (0 : Int))) T.e T.e)) (T.n none (T.n (some
  (AV.i IntKind.i64 i)) T.e T.e) T.e))) (T.n (some (AV.i IntKind.i64 (0 : Int))) (T.n none (T.n none T.e (T.n (some (AV.p 3 0)) T.e T.e)) (T.n none (T.n (some (AV.b gd)) T.e T.e)
  T.e)) (T.n none (T.n none T.e (T.n (some (AV.i IntKind.i64 (1 : Int))) T.e T.e)) (T.n none (T.n (some (AV.i IntKind.i64 (0 : Int))) T.e T.e) T.e))))) (T.n none (T.n none (T.n
  (some (AV.p 2 0)) (T.n none (T.n (some (AV.sv 4 L (opF KK II XX TT))) T.e (T.n (some (AV.i IntKind.i64 (Int.ofNat (a 0)))) T.e T.e)) T.e) (T.n none (T.n none T.e (T.n (some
  (AV.agg [AV.i IntKind.i64 (Int.ofNat (CS.getQ c (0 : Int))), AV.s (CS.getD c (0 : Int))])) T.e T.e)) (T.n none (T.n (some (AV.p 2 1)) T.e T.e) T.e))) (T.n (some (AV.b gd)) (T.n
  none (T.n none T.e (T.n (some (AV.agg [AV.i IntKind.i64 (Int.ofNat (a 0) + (1 : Int)), AV.s x])) T.e T.e)) (T.n none (T.n (some (AV.i IntKind.i64 (0 : Int))) T.e T.e) T.e)) (T.n
  none (T.n none T.e (T.n (some (AV.b !(decide (Int.ofNat (CS.getQ c (0 : Int)) = Int.ofNat (a 0) + (1 : Int)) && (natsEq (CS.getD c (0 : Int)) x && true)))) T.e T.e)) (T.n none
  (T.n (some (AV.i IntKind.i64 (0 : Int))) T.e T.e) T.e)))) (T.n none (T.n none (T.n none (T.n (some (AV.i IntKind.i64 (Int.ofNat k))) T.e (T.n (some (AV.p 2 2)) T.e T.e)) (T.n none
  (T.n (some (AV.i IntKind.i64 (1 : Int))) T.e T.e) T.e)) (T.n none (T.n none T.e (T.n (some (AV.p 3 0)) T.e T.e)) (T.n none (T.n (some (AV.b (decide ((0 : Int) = i)))) T.e T.e)
  T.e))) (T.n none (T.n none (T.n none T.e (T.n (some (AV.p 1 0)) T.e T.e)) (T.n none (T.n (some (AV.b gd)) T.e T.e) T.e)) (T.n none T.e (T.n none (T.n (some (AV.p 3 0)) T.e T.e)
  T.e)))))) { tree := T.n (some (SS.o s)) (T.n (some (CS.oa c)) (T.n (some (AObj.cells 85 8 [AV.i IntKind.i64 (0 : Int), AV.s [], AV.i IntKind.i64 (0 : Int), AV.s [], AV.i IntKind.i64 (0 : Int), AV.s [], AV.i IntKind.i64 (0 : Int), AV.s []] (T.n (some (AV.i IntKind.i64 (Int.ofNat (a 0) + (1 : Int)))) (T.n (some (AV.s x)) (T.n (some (AV.s (d 1))) (T.n (some (AV.s (d 3))) T.e T.e) T.e) (T.n (some (AV.s (d 2))) T.e T.e)) (T.n (some (AV.i IntKind.i64 (Int.ofNat (a 1)))) (T.n (some (AV.i IntKind.i64 (Int.ofNat (a 2)))) T.e T.e) (T.n (some (AV.i IntKind.i64 (Int.ofNat (a 3)))) T.e T.e))))) T.e T.e) T.e) (T.n (some (AObj.cells 75 4 [AV.i IntKind.i64 (0 : Int), AV.i IntKind.i64 (0 : Int), AV.s [], AV.b false] (T.n (some (AV.i IntKind.i64 kk)) (T.n (some (AV.i IntKind.i64 i)) (T.n (some (AV.b tt)) T.e T.e) T.e) (T.n (some (AV.s x)) T.e T.e)))) T.e T.e), next := 4, log := [3] })
  Orc.z)) ∧ (decide ((0 : Int) = i) = false → Con Tryd.prog 49 [AV.p 0 0, AV.i IntKind.i64 (0 : Int)] [some (CS.o c), some (SS.o s)] (AV.agg [AV.i IntKind.i64 (Int.ofNat (CS.getQ c
  (0 : Int))), AV.s (CS.getD c (0 : Int))]) [Upd.keep, Upd.keep] ∧ True ∧ ((!(decide (Int.ofNat (CS.getQ c (0 : Int)) = Int.ofNat (a 0)) && (natsEq (CS.getD c (0 : Int)) (d 0) &&
  true))) = true → K (Res.st XO.ret (T.n none (T.n none (T.n none (T.n none T.e (T.n none (T.n none T.e (T.n (some (AV.i IntKind.i64 (0 : Int))) T.e T.e)) (T.n none (T.n (some (AV.i
  IntKind.i64 (0 : Int))) T.e T.e) T.e))) (T.n none (T.n none T.e (T.n none (T.n (some (AV.b true)) T.e T.e) T.e)) (T.n none (T.n none T.e (T.n (some (AV.agg [AV.i IntKind.i64
  (Int.ofNat (a 0)), AV.s (d 0)])) T.e T.e)) (T.n none (T.n (some (AV.b (decide ((0 : Int) = i)))) T.e T.e) T.e)))) (T.n (some (AV.p 1 0)) (T.n (some (AV.p 3 0)) (T.n none (T.n
  (some (AV.i IntKind.i64 (Int.ofNat L))) T.e T.e) T.e) (T.n none (T.n none T.e (T.n (some (AV.i IntKind.i64 (0 : Int))) T.e T.e)) (T.n none (T.n (some (AV.i IntKind.i64 i)) T.e
  T.e) T.e))) (T.n (some (AV.i IntKind.i64 (0 : Int))) (T.n none T.e (T.n none (T.n (some (AV.b gd)) T.e T.e) T.e)) T.e))) (T.n (some (AV.b false)) (T.n none (T.n (some (AV.p 2 0))
  (T.n none (T.n (some (AV.sv 4 L (opF KK II XX TT))) T.e T.e) T.e) (T.n none (T.n none T.e (T.n (some (AV.agg [AV.i IntKind.i64 (Int.ofNat (CS.getQ c (0 : Int))), AV.s (CS.getD c
  (0 : Int))])) T.e T.e)) (T.n none (T.n (some (AV.p 2 1)) T.e T.e) T.e))) (T.n (some (AV.b gd)) (T.n none T.e (T.n none (T.n (some (AV.i IntKind.i64 (0 : Int))) T.e T.e) T.e)) (T.n
  none (T.n none T.e (T.n (some (AV.b !(decide (Int.ofNat (CS.getQ c (0 : Int)) = Int.ofNat (a 0)) && (natsEq (CS.getD c (0 : Int)) (d 0) && true)))) T.e T.e)) T.e))) (T.n none (T.n
  none (T.n none (T.n (some (AV.i IntKind.i64 (Int.ofNat k))) T.e T.e) (T.n none (T.n (some (AV.i IntKind.i64 (0 : Int))) T.e T.e) T.e)) (T.n none (T.n none T.e (T.n (some (AV.p 3
  0)) T.e T.e)) (T.n none (T.n (some (AV.b (decide ((0 : Int) = i)))) T.e T.e) T.e))) (T.n none (T.n none (T.n none T.e (T.n (some (AV.p 1 0)) T.e T.e)) (T.n none (T.n (some (AV.b
  gd)) T.e T.e) T.e)) T.e)))) { tree := T.n (some (SS.o s)) (T.n (some (CS.oa c)) (T.n (some (AObj.cells 85 8 [AV.i IntKind.i64 (0 : Int), AV.s [], AV.i IntKind.i64 (0 : Int), AV.s [], AV.i IntKind.i64 (0 : Int), AV.s [], AV.i IntKind.i64 (0 : Int), AV.s []] (T.n (some (AV.i IntKind.i64 (Int.ofNat (a 0)))) (T.n (some (AV.s (d 0))) (T.n (some (AV.s (d 1))) (T.n (some (AV.s (d 3))) T.e T.e) T.e) (T.n (some (AV.s (d 2))) T.e T.e)) (T.n (some (AV.i IntKind.i64 (Int.ofNat (a 1)))) (T.n (some (AV.i IntKind.i64 (Int.ofNat (a 2)))) T.e T.e) (T.n (some (AV.i IntKind.i64 (Int.ofNat (a 3)))) T.e T.e))))) T.e T.e) T.e) (T.n (some (AObj.cells 75 4 [AV.i IntKind.i64 (0 : Int), AV.i IntKind.i64 (0 : Int), AV.s [], AV.b false] (T.n (some (AV.i IntKind.i64 kk)) (T.n (some (AV.i IntKind.i64 i)) (T.n (some (AV.b tt)) T.e T.e) T.e) (T.n (some (AV.s x)) T.e T.e)))) T.e T.e), next := 4, log := [] })
  Orc.z) ∧ ((!(decide (Int.ofNat (CS.getQ c (0 : Int)) = Int.ofNat (a 0)) && (natsEq (CS.getD c (0 : Int)) (d 0) && true))) = false → ((-9223372036854775808 : Int) ≤ (1 : Int) ∧ (1
  : Int) ≤ (9223372036854775807 : Int)) ∧ K (Res.st XO.nrm (T.n none (T.n none (T.n none (T.n none T.e (T.n none (T.n none T.e (T.n (some (AV.i IntKind.i64 (0 : Int))) T.e T.e))
  (T.n none (T.n (some (AV.i IntKind.i64 (0 : Int))) T.e T.e) T.e))) (T.n none (T.n none T.e (T.n none (T.n (some (AV.b true)) T.e T.e) T.e)) (T.n none (T.n none T.e (T.n (some
  (AV.agg [AV.i IntKind.i64 (Int.ofNat (a 0)), AV.s (d 0)])) T.e T.e)) (T.n none (T.n (some (AV.b (decide ((0 : Int) = i)))) T.e T.e) T.e)))) (T.n (some (AV.p 1 0)) (T.n (some (AV.p
  3 0)) (T.n none (T.n (some (AV.i IntKind.i64 (Int.ofNat L))) T.e T.e) T.e) (T.n none (T.n none T.e (T.n (some (AV.i IntKind.i64 (0 : Int))) T.e T.e)) (T.n none (T.n (some (AV.i
  IntKind.i64 i)) T.e T.e) T.e))) (T.n (some (AV.i IntKind.i64 (0 : Int))) (T.n none T.e (T.n none (T.n (some (AV.b gd)) T.e T.e) T.e)) (T.n none (T.n none T.e (T.n (some (AV.i
  IntKind.i64 (1 : Int))) T.e T.e)) T.e)))) (T.n none (T.n none (T.n (some (AV.p 2 0)) (T.n none (T.n (some (AV.sv 4 L (opF KK II XX TT))) T.e T.e) T.e) (T.n none (T.n none T.e (T.n
  (some (AV.agg [AV.i IntKind.i64 (Int.ofNat (CS.getQ c (0 : Int))), AV.s (CS.getD c (0 : Int))])) T.e T.e)) (T.n none (T.n (some (AV.p 2 1)) T.e T.e) T.e))) (T.n (some (AV.b gd))
  (T.n none T.e (T.n none (T.n (some (AV.i IntKind.i64 (0 : Int))) T.e T.e) T.e)) (T.n none (T.n none T.e (T.n (some (AV.b !(decide (Int.ofNat (CS.getQ c (0 : Int)) = Int.ofNat (a
  0)) && (natsEq (CS.getD c (0 : Int)) (d 0) && true)))) T.e T.e)) T.e))) (T.n none (T.n none (T.n none (T.n (some (AV.i IntKind.i64 (Int.ofNat k))) T.e T.e) (T.n none (T.n (some
  (AV.i IntKind.i64 (1 : Int))) T.e T.e) T.e)) (T.n none (T.n none T.e (T.n (some (AV.p 3 0)) T.e T.e)) (T.n none (T.n (some (AV.b (decide ((0 : Int) = i)))) T.e T.e) T.e))) (T.n
  none (T.n none (T.n none T.e (T.n (some (AV.p 1 0)) T.e T.e)) (T.n none (T.n (some (AV.b gd)) T.e T.e) T.e)) T.e)))) { tree := T.n (some (SS.o s)) (T.n (some (CS.oa c)) (T.n (some (AObj.cells 85 8 [AV.i IntKind.i64 (0 : Int), AV.s [], AV.i IntKind.i64 (0 : Int), AV.s [], AV.i IntKind.i64 (0 : Int), AV.s [], AV.i IntKind.i64 (0 : Int), AV.s []] (T.n (some (AV.i IntKind.i64 (Int.ofNat (a 0)))) (T.n (some (AV.s (d 0))) (T.n (some (AV.s (d 1))) (T.n (some (AV.s (d 3))) T.e T.e) T.e) (T.n (some (AV.s (d 2))) T.e T.e)) (T.n (some (AV.i IntKind.i64 (Int.ofNat (a 1)))) (T.n (some (AV.i IntKind.i64 (Int.ofNat (a 2)))) T.e T.e) (T.n (some (AV.i IntKind.i64 (Int.ofNat (a 3)))) T.e T.e))))) T.e T.e) T.e) (T.n (some (AObj.cells 75 4 [AV.i IntKind.i64 (0 : Int), AV.i IntKind.i64 (0 : Int), AV.s [], AV.b false] (T.n (some (AV.i IntKind.i64 kk)) (T.n (some (AV.i IntKind.i64 i)) (T.n (some (AV.b tt)) T.e T.e) T.e) (T.n (some (AV.s x)) T.e T.e)))) T.e T.e), next := 4, log := [] })
  Orc.z))) ∧ (gd = false → gd = false ∧ gd = false ∧ gd = false ∧ gd = false ∧ Con Tryd.prog 49 [AV.p 0 0, AV.i IntKind.i64 (0 : Int)] [some (CS.o c), some (SS.o s)] (AV.agg [AV.i
  IntKind.i64 (Int.ofNat (CS.getQ c (0 : Int))), AV.s (CS.getD c (0 : Int))]) [Upd.keep, Upd.keep] ∧ True ∧ ((!(decide (Int.ofNat (CS.getQ c (0 : Int)) = Int.ofNat (a 0)) && (natsEq
  (CS.getD c (0 : Int)) (d 0) && true))) = true → K (Res.st XO.ret (T.n none (T.n none (T.n none (T.n none T.e (T.n none (T.n none T.e (T.n (some (AV.i IntKind.i64 (0 : Int))) T.e
  T.e)) (T.n none (T.n (some (AV.tup [])) T.e T.e) T.e))) (T.n none (T.n none T.e (T.n none (T.n (some (AV.b true)) T.e T.e) T.e)) (T.n none (T.n none T.e (T.n (some (AV.agg [AV.i
  IntKind.i64 (Int.ofNat (a 0)), AV.s (d 0)])) T.e T.e)) (T.n none (T.n (some (AV.b false)) T.e T.e) T.e)))) (T.n (some (AV.p 1 0)) (T.n (some (AV.p 3 0)) (T.n none (T.n (some (AV.i
  IntKind.i64 (Int.ofNat L))) T.e T.e) T.e) (T.n none (T.n none T.e (T.n (some (AV.i IntKind.i64 (0 : Int))) T.e T.e)) (T.n none (T.n (some (AV.tup [])) T.e T.e) T.e))) (T.n (some
  (AV.i IntKind.i64 (0 : Int))) (T.n none T.e (T.n none (T.n (some (AV.b gd)) T.e T.e) T.e)) T.e))) (T.n (some (AV.b false)) (T.n none (T.n (some (AV.p 2 0)) (T.n none (T.n (some
  (AV.sv 4 L (opF KK II XX TT))) T.e T.e) T.e) (T.n none (T.n none T.e (T.n (some (AV.agg [AV.i IntKind.i64 (Int.ofNat (CS.getQ c (0 : Int))), AV.s (CS.getD c (0 : Int))])) T.e
  T.e)) (T.n none (T.n (some (AV.tup [])) T.e T.e) T.e))) (T.n (some (AV.b gd)) (T.n none T.e (T.n none (T.n (some (AV.i IntKind.i64 (0 : Int))) T.e T.e) T.e)) (T.n none (T.n none
  T.e (T.n (some (AV.b !(decide (Int.ofNat (CS.getQ c (0 : Int)) = Int.ofNat (a 0)) && (natsEq (CS.getD c (0 : Int)) (d 0) && true)))) T.e T.e)) T.e))) (T.n none (T.n none (T.n none
  (T.n (some (AV.i IntKind.i64 (Int.ofNat k))) T.e T.e) (T.n none (T.n (some (AV.i IntKind.i64 (0 : Int))) T.e T.e) T.e)) (T.n none (T.n none T.e (T.n (some (AV.p 3 0)) T.e T.e))
  (T.n none (T.n (some (AV.tup [])) T.e T.e) T.e))) (T.n none (T.n none (T.n none T.e (T.n (some (AV.p 1 0)) T.e T.e)) (T.n none (T.n (some (AV.b gd)) T.e T.e) T.e)) T.e)))) { tree := T.n (some (SS.o s)) (T.n (some (CS.oa c)) (T.n (some (AObj.cells 85 8 [AV.i IntKind.i64 (0 : Int), AV.s [], AV.i IntKind.i64 (0 : Int), AV.s [], AV.i IntKind.i64 (0 : Int), AV.s [], AV.i IntKind.i64 (0 : Int), AV.s []] (T.n (some (AV.i IntKind.i64 (Int.ofNat (a 0)))) (T.n (some (AV.s (d 0))) (T.n (some (AV.s (d 1))) (T.n (some (AV.s (d 3))) T.e T.e) T.e) (T.n (some (AV.s (d 2))) T.e T.e)) (T.n (some (AV.i IntKind.i64 (Int.ofNat (a 1)))) (T.n (some (AV.i IntKind.i64 (Int.ofNat (a 2)))) T.e T.e) (T.n (some (AV.i IntKind.i64 (Int.ofNat (a 3)))) T.e T.e))))) T.e T.e) T.e) (T.n (some (AObj.cells 75 4 [AV.i IntKind.i64 (0 : Int), AV.i IntKind.i64 (0 : Int), AV.s [], AV.b false] (T.n (some (AV.i IntKind.i64 kk)) (T.n (some (AV.i IntKind.i64 i)) (T.n (some (AV.b tt)) T.e T.e) T.e) (T.n (some (AV.s x)) T.e T.e)))) T.e T.e), next := 4, log := [] })
  Orc.z) ∧ ((!(decide (Int.ofNat (CS.getQ c (0 : Int)) = Int.ofNat (a 0)) && (natsEq (CS.getD c (0 : Int)) (d 0) && true))) = false → ((-9223372036854775808 : Int) ≤ (1 : Int) ∧ (1
  : Int) ≤ (9223372036854775807 : Int)) ∧ K (Res.st XO.nrm (T.n none (T.n none (T.n none (T.n none T.e (T.n none (T.n none T.e (T.n (some (AV.i IntKind.i64 (0 : Int))) T.e T.e))
  (T.n none (T.n (some (AV.tup [])) T.e T.e) T.e))) (T.n none (T.n none T.e (T.n none (T.n (some (AV.b true)) T.e T.e) T.e)) (T.n none (T.n none T.e (T.n (some (AV.agg [AV.i
  IntKind.i64 (Int.ofNat (a 0)), AV.s (d 0)])) T.e T.e)) (T.n none (T.n (some (AV.b false)) T.e T.e) T.e)))) (T.n (some (AV.p 1 0)) (T.n (some (AV.p 3 0)) (T.n none (T.n (some (AV.i
  IntKind.i64 (Int.ofNat L))) T.e T.e) T.e) (T.n none (T.n none T.e (T.n (some (AV.i IntKind.i64 (0 : Int))) T.e T.e)) (T.n none (T.n (some (AV.tup [])) T.e T.e) T.e))) (T.n (some
  (AV.i IntKind.i64 (0 : Int))) (T.n none T.e (T.n none (T.n (some (AV.b gd)) T.e T.e) T.e)) (T.n none (T.n none T.e (T.n (some (AV.i IntKind.i64 (1 : Int))) T.e T.e)) T.e)))) (T.n
  none (T.n none (T.n (some (AV.p 2 0)) (T.n none (T.n (some (AV.sv 4 L (opF KK II XX TT))) T.e T.e) T.e) (T.n none (T.n none T.e (T.n (some (AV.agg [AV.i IntKind.i64 (Int.ofNat
  (CS.getQ c (0 : Int))), AV.s (CS.getD c (0 : Int))])) T.e T.e)) (T.n none (T.n (some (AV.tup [])) T.e T.e) T.e))) (T.n (some (AV.b gd)) (T.n none T.e (T.n none (T.n (some (AV.i
  IntKind.i64 (0 : Int))) T.e T.e) T.e)) (T.n none (T.n none T.e (T.n (some (AV.b !(decide (Int.ofNat (CS.getQ c (0 : Int)) = Int.ofNat (a 0)) && (natsEq (CS.getD c (0 : Int)) (d 0)
  && true)))) T.e T.e)) T.e))) (T.n none (T.n none (T.n none (T.n (some (AV.i IntKind.i64 (Int.ofNat k))) T.e T.e) (T.n none (T.n (some (AV.i IntKind.i64 (1 : Int))) T.e T.e) T.e))
  (T.n none (T.n none T.e (T.n (some (AV.p 3 0)) T.e T.e)) (T.n none (T.n (some (AV.tup [])) T.e T.e) T.e))) (T.n none (T.n none (T.n none T.e (T.n (some (AV.p 1 0)) T.e T.e)) (T.n
  none (T.n (some (AV.b gd)) T.e T.e) T.e)) T.e)))) { tree := T.n (some (SS.o s)) (T.n (some (CS.oa c)) (T.n (some (AObj.cells 85 8 [AV.i IntKind.i64 (0 : Int), AV.s [], AV.i IntKind.i64 (0 : Int), AV.s [], AV.i IntKind.i64 (0 : Int), AV.s [], AV.i IntKind.i64 (0 : Int), AV.s []] (T.n (some (AV.i IntKind.i64 (Int.ofNat (a 0)))) (T.n (some (AV.s (d 0))) (T.n (some (AV.s (d 1))) (T.n (some (AV.s (d 3))) T.e T.e) T.e) (T.n (some (AV.s (d 2))) T.e T.e)) (T.n (some (AV.i IntKind.i64 (Int.ofNat (a 1)))) (T.n (some (AV.i IntKind.i64 (Int.ofNat (a 2)))) T.e T.e) (T.n (some (AV.i IntKind.i64 (Int.ofNat (a 3)))) T.e T.e))))) T.e T.e) T.e) (T.n (some (AObj.cells 75 4 [AV.i IntKind.i64 (0 : Int), AV.i IntKind.i64 (0 : Int), AV.s [], AV.b false] (T.n (some (AV.i IntKind.i64 kk)) (T.n (some (AV.i IntKind.i64 i)) (T.n (some (AV.b tt)) T.e T.e) T.e) (T.n (some (AV.s x)) T.e T.e)))) T.e T.e), next := 4, log := [] })
  Orc.z))) := by kernel_rfl

theorem grow1_vc (c : CS) (s : SS) (L k : Nat) (KK II : Nat → Int) (XX : Nat → List Nat) (TT : Nat → Bool) (a : Nat → Nat) (d : Nat → List Nat) (kk i : Int) (x : List Nat) (gd tt :
  Bool) (K : Res → Orc → Prop) : runK Tryd.prog 1000000 (.code (loopAt Tryd.prog 13 2) 125 (mkT [(5, .p 1 0), (8, .p 2 0), (9, .p 3 0), (12, .b gd), (32, .sv 4 L (opF KK II XX TT)),
  (33, .i .i64 (Int.ofNat L)), (34, .i .i64 (Int.ofNat k)), (82, .i .i64 1)]) (mkH [some s.o, some c.oa, some (opO kk i x tt), some (wasO a d)])) (Orc.c (Orc.s (Orc.t (Orc.t (Orc.t
  (Orc.t (Orc.s (Orc.c (Orc.c (Orc.cal [1, 0] (AV.agg [AV.i IntKind.i64 (Int.ofNat (CS.getQ c (1 : Int))), AV.s (CS.getD c (1 : Int))]) [Upd.keep, Upd.keep] (Orc.c (Orc.s Orc.z
  Orc.z))))) (Orc.cal [1, 0] (AV.agg [AV.i IntKind.i64 (Int.ofNat (CS.getQ c (1 : Int))), AV.s (CS.getD c (1 : Int))]) [Upd.keep, Upd.keep] (Orc.c (Orc.s Orc.z Orc.z)))))))) (Orc.f
  (Orc.f (Orc.f (Orc.f (Orc.c (Orc.cal [1, 0] (AV.agg [AV.i IntKind.i64 (Int.ofNat (CS.getQ c (1 : Int))), AV.s (CS.getD c (1 : Int))]) [Upd.keep, Upd.keep] (Orc.c (Orc.s Orc.z
  Orc.z)))))))))) K = ((gd = true → gd = true ∧ True ∧ gd = true ∧ gd = true ∧ gd = true ∧ (decide ((1 : Int) = i) = true → True ∧ ((-9223372036854775808 : Int) ≤ Int.ofNat (a 1) +
  (1 : Int) ∧ Int.ofNat (a 1) + (1 : Int) ≤ (9223372036854775807 : Int)) ∧ True ∧ Con Tryd.prog 49 [AV.p 0 0, AV.i IntKind.i64 (1 : Int)] [some (CS.o c), some (SS.o s)] (AV.agg
  [AV.i IntKind.i64 (Int.ofNat (CS.getQ c (1 : Int))), AV.s (CS.getD c (1 : Int))]) [Upd.keep, Upd.keep] ∧ True ∧ ((!(decide (Int.ofNat (CS.getQ c (1 : Int)) = Int.ofNat (a 1) + (1
  : Int)) && (natsEq (CS.getD c (1 : Int)) x && true))) = true → K (Res.st XO.ret (T.n none (T.n none (T.n none (T.n none (T.n none (T.n none T.e (T.n (some (AV.p 3 2)) T.e T.e))
  T.e) (T.n none (T.n none T.e (T.n (some (AV.i IntKind.i64 (1 : Int))) T.e T.e)) (T.n none (T.n (some (AV.i IntKind.i64 (1 : Int))) T.e T.e) T.e))) (T.n none (T.n none (T.n none
  T.e (T.n (some (AV.s x)) T.e T.e)) (T.n none (T.n (some (AV.b true)) T.e T.e) T.e)) (T.n none (T.n none T.e (T.n (some (AV.agg [AV.i IntKind.i64 (Int.ofNat (a 1) + (1 : Int)),
  AV.s x])) T.e T.e)) (T.n none (T.n (some (AV.b (decide ((1 : Int) = i)))) T.e T.e) T.e)))) (T.n (some (AV.p 1 0)) (T.n (some (AV.p 3 0)) (T.n none (T.n (some (AV.i IntKind.i64
  (Int.ofNat L))) T.e (T.n (some (AV.i IntKind.i64 (Int.ofNat (a 1) + (1 : Int)))) T.e T.e)) T.e) (T.n none (T.n none T.e (T.n (some (AV.i IntKind.i64 (1 : Int))) T.e T.e)) (T.n
  none (T.n (some (AV.i IntKind.i64 i)) T.e T.e) T.e))) (T.n (some (AV.i IntKind.i64 (1 : Int))) (T.n none (T.n none T.e (T.n (some (AV.p 3 2)) T.e T.e)) (T.n none (T.n (some (AV.b
  gd)) T.e T.e) T.e)) (T.n none T.e (T.n none (T.n (some (AV.i IntKind.i64 (1 : Int))) T.e T.e) T.e))))) (T.n (some (AV.b false)) (T.n none (T.n (some (AV.p 2 0)) (T.n none (T.n
  (some (AV.sv 4 L (opF KK II XX TT))) T.e (T.n (some (AV.i IntKind.i64 (Int.ofNat (a 1)))) T.e T.e)) T.e) (T.n none (T.n none T.e (T.n (some (AV.agg [AV.i IntKind.i64 (Int.ofNat
  (CS.getQ c (1 : Int))), AV.s (CS.getD c (1 : Int))])) T.e T.e)) (T.n none (T.n (some (AV.p 2 1)) T.e T.e) T.e))) (T.n (some (AV.b gd)) (T.n none (T.n none T.e (T.n (some (AV.agg
  [AV.i IntKind.i64 (Int.ofNat (a 1) + (1 : Int)), AV.s x])) T.e T.e)) (T.n none (T.n (some (AV.i IntKind.i64 (1 : Int))) T.e T.e) T.e)) (T.n none (T.n none T.e (T.n (some (AV.b
  !(decide (Int.ofNat (CS.getQ c (1 : Int)) = Int.ofNat (a 1) + (1 : Int)) && (natsEq (CS.getD c (1 : Int)) x && true)))) T.e T.e)) (T.n none (T.n (some (AV.i IntKind.i64 (1 :
  Int))) T.e T.e) T.e)))) (T.n none (T.n none (T.n none (T.n (some (AV.i IntKind.i64 (Int.ofNat k))) T.e (T.n (some (AV.p 2 2)) T.e T.e)) (T.n none (T.n (some (AV.i IntKind.i64 (1 :
  Int))) T.e T.e) T.e)) (T.n none (T.n none T.e (T.n (some (AV.p 3 2)) T.e T.e)) (T.n none (T.n (some (AV.b (decide ((1 : Int) = i)))) T.e T.e) T.e))) (T.n none (T.n none (T.n none
  T.e (T.n (some (AV.p 1 0)) T.e T.e)) (T.n none (T.n (some (AV.b gd)) T.e T.e) T.e)) (T.n none T.e (T.n none (T.n (some (AV.p 3 2)) T.e T.e) T.e)))))) { tree := T.n (some (SS.o s)) (T.n (some (CS.oa c)) (T.n (some (AObj.cells 85 8 [AV.i IntKind.i64 (0 : Int), AV.s [], AV.i IntKind.i64 (0 : Int), AV.s [], AV.i IntKind.i64 (0 : Int), AV.s [], AV.i IntKind.i64 (0 : Int), AV.s []] (T.n (some (AV.i IntKind.i64 (Int.ofNat (a 0)))) (T.n (some (AV.s (d 0))) (T.n (some (AV.s x)) (T.n (some (AV.s (d 3))) T.e T.e) T.e) (T.n (some (AV.s (d 2))) T.e T.e)) (T.n (some (AV.i IntKind.i64 (Int.ofNat (a 1) + (1 : Int)))) (T.n (some (AV.i IntKind.i64 (Int.ofNat (a 2)))) T.e T.e) (T.n (some (AV.i IntKind.i64 (Int.ofNat (a 3)))) T.e T.e))))) T.e T.e) T.e) (T.n (some (AObj.cells 75 4 [AV.i IntKind.i64 (0 : Int), AV.i IntKind.i64 (0 : Int), AV.s [], AV.b false] (T.n (some (AV.i IntKind.i64 kk)) (T.n (some (AV.i IntKind.i64 i)) (T.n (some (AV.b tt)) T.e T.e) T.e) (T.n (some (AV.s x)) T.e T.e)))) T.e T.e), next := 4, log := [3] })
  Orc.z) ∧ ((!(decide (Int.ofNat (CS.getQ c (1 : Int)) = Int.ofNat (a 1) + (1 : Int)) && (natsEq (CS.getD c (1 : Int)) x && true))) = false → ((-9223372036854775808 : Int) ≤ (2 :
  Int) ∧ (2 : Int) ≤ (9223372036854775807 : Int)) ∧ K (Res.st XO.nrm (T.n none (T.n none (T.n none (T.n none (T.n none (T.n none T.e (T.n (some (AV.p 3 2)) T.e T.e)) T.e) (T.n none
  (T.n none T.e (T.n (some (AV.i IntKind.i64 (1 : Int))) T.e T.e)) (T.n none (T.n (some (AV.i IntKind.i64 (1 : Int))) T.e T.e) T.e))) (T.n none (T.n none (T.n none T.e (T.n (some
  (AV.s x)) T.e T.e)) (T.n none (T.n (some (AV.b true)) T.e T.e) T.e)) (T.n none (T.n none T.e (T.n (some (AV.agg [AV.i IntKind.i64 (Int.ofNat (a 1) + (1 : Int)), AV.s x])) T.e
  T.e)) (T.n none (T.n (some (AV.b (decide ((1 : Int) = i)))) T.e T.e) T.e)))) (T.n (some (AV.p 1 0)) (T.n (some (AV.p 3 0)) (T.n none (T.n (some (AV.i IntKind.i64 (Int.ofNat L)))
  T.e (T.n (some (AV.i IntKind.i64 (Int.ofNat (a 1) + (1 : Int)))) T.e T.e)) T.e) (T.n none (T.n none T.e (T.n (some (AV.i IntKind.i64 (1 : Int))) T.e T.e)) (T.n none (T.n (some
  (AV.i IntKind.i64 i)) T.e T.e) T.e))) (T.n (some (AV.i IntKind.i64 (1 : Int))) (T.n none (T.n none T.e (T.n (some (AV.p 3 2)) T.e T.e)) (T.n none (T.n (some (AV.b gd)) T.e T.e)
  T.e)) (T.n none (T.n none T.e (T.n (some (AV.i IntKind.i64 (2 : Int))) T.e T.e)) (T.n none (T.n (some (AV.i IntKind.i64 (1 : Int))) T.e T.e) T.e))))) (T.n none (T.n none (T.n
  (some (AV.p 2 0)) (T.n none (T.n (some (AV.sv 4 L (opF KK II XX TT))) T.e (T.n (some (AV.i IntKind.i64 (Int.ofNat (a 1)))) T.e T.e)) T.e) (T.n none (T.n none T.e (T.n (some
  (AV.agg [AV.i IntKind.i64 (Int.ofNat (CS.getQ c (1 : Int))), AV.s (CS.getD c (1 : Int))])) T.e T.e)) (T.n none (T.n (some (AV.p 2 1)) T.e T.e) T.e))) (T.n (some (AV.b gd)) (T.n
  none (T.n none T.e (T.n (some (AV.agg [AV.i IntKind.i64 (Int.ofNat (a 1) + (1 : Int)), AV.s x])) T.e T.e)) (T.n none (T.n (some (AV.i IntKind.i64 (1 : Int))) T.e T.e) T.e)) (T.n
  none (T.n none T.e (T.n (some (AV.b !(decide (Int.ofNat (CS.getQ c (1 : Int)) = Int.ofNat (a 1) + (1 : Int)) && (natsEq (CS.getD c (1 : Int)) x && true)))) T.e T.e)) (T.n none
  (T.n (some (AV.i IntKind.i64 (1 : Int))) T.e T.e) T.e)))) (T.n none (T.n none (T.n none (T.n (some (AV.i IntKind.i64 (Int.ofNat k))) T.e (T.n (some (AV.p 2 2)) T.e T.e)) (T.n none
  (T.n (some (AV.i IntKind.i64 (2 : Int))) T.e T.e) T.e)) (T.n none (T.n none T.e (T.n (some (AV.p 3 2)) T.e T.e)) (T.n none (T.n (some (AV.b (decide ((1 : Int) = i)))) T.e T.e)
  T.e))) (T.n none (T.n none (T.n none T.e (T.n (some (AV.p 1 0)) T.e T.e)) (T.n none (T.n (some (AV.b gd)) T.e T.e) T.e)) (T.n none T.e (T.n none (T.n (some (AV.p 3 2)) T.e T.e)
  T.e)))))) { tree := T.n (some (SS.o s)) (T.n (some (CS.oa c)) (T.n (some (AObj.cells 85 8 [AV.i IntKind.i64 (0 : Int), AV.s [], AV.i IntKind.i64 (0 : Int), AV.s [], AV.i IntKind.i64 (0 : Int), AV.s [], AV.i IntKind.i64 (0 : Int), AV.s []] (T.n (some (AV.i IntKind.i64 (Int.ofNat (a 0)))) (T.n (some (AV.s (d 0))) (T.n (some (AV.s x)) (T.n (some (AV.s (d 3))) T.e T.e) T.e) (T.n (some (AV.s (d 2))) T.e T.e)) (T.n (some (AV.i IntKind.i64 (Int.ofNat (a 1) + (1 : Int)))) (T.n (some (AV.i IntKind.i64 (Int.ofNat (a 2)))) T.e T.e) (T.n (some (AV.i IntKind.i64 (Int.ofNat (a 3)))) T.e T.e))))) T.e T.e) T.e) (T.n (some (AObj.cells 75 4 [AV.i IntKind.i64 (0 : Int), AV.i IntKind.i64 (0 : Int), AV.s [], AV.b false] (T.n (some (AV.i IntKind.i64 kk)) (T.n (some (AV.i IntKind.i64 i)) (T.n (some (AV.b tt)) T.e T.e) T.e) (T.n (some (AV.s x)) T.e T.e)))) T.e T.e), next := 4, log := [3] })
  Orc.z)) ∧ (decide ((1 : Int) = i) = false → Con Tryd.prog 49 [AV.p 0 0, AV.i IntKind.i64 (1 : Int)] [some (CS.o c), some (SS.o s)] (AV.agg [AV.i IntKind.i64 (Int.ofNat (CS.getQ c
  (1 : Int))), AV.s (CS.getD c (1 : Int))]) [Upd.keep, Upd.keep] ∧ True ∧ ((!(decide (Int.ofNat (CS.getQ c (1 : Int)) = Int.ofNat (a 1)) && (natsEq (CS.getD c (1 : Int)) (d 1) &&
  true))) = true → K (Res.st XO.ret (T.n none (T.n none (T.n none (T.n none T.e (T.n none (T.n none T.e (T.n (some (AV.i IntKind.i64 (1 : Int))) T.e T.e)) (T.n none (T.n (some (AV.i
  IntKind.i64 (1 : Int))) T.e T.e) T.e))) (T.n none (T.n none T.e (T.n none (T.n (some (AV.b true)) T.e T.e) T.e)) (T.n none (T.n none T.e (T.n (some (AV.agg [AV.i IntKind.i64
  (Int.ofNat (a 1)), AV.s (d 1)])) T.e T.e)) (T.n none (T.n (some (AV.b (decide ((1 : Int) = i)))) T.e T.e) T.e)))) (T.n (some (AV.p 1 0)) (T.n (some (AV.p 3 0)) (T.n none (T.n
  (some (AV.i IntKind.i64 (Int.ofNat L))) T.e T.e) T.e) (T.n none (T.n none T.e (T.n (some (AV.i IntKind.i64 (1 : Int))) T.e T.e)) (T.n none (T.n (some (AV.i IntKind.i64 i)) T.e
  T.e) T.e))) (T.n (some (AV.i IntKind.i64 (1 : Int))) (T.n none T.e (T.n none (T.n (some (AV.b gd)) T.e T.e) T.e)) T.e))) (T.n (some (AV.b false)) (T.n none (T.n (some (AV.p 2 0))
  (T.n none (T.n (some (AV.sv 4 L (opF KK II XX TT))) T.e T.e) T.e) (T.n none (T.n none T.e (T.n (some (AV.agg [AV.i IntKind.i64 (Int.ofNat (CS.getQ c (1 : Int))), AV.s (CS.getD c
  (1 : Int))])) T.e T.e)) (T.n none (T.n (some (AV.p 2 1)) T.e T.e) T.e))) (T.n (some (AV.b gd)) (T.n none T.e (T.n none (T.n (some (AV.i IntKind.i64 (1 : Int))) T.e T.e) T.e)) (T.n
  none (T.n none T.e (T.n (some (AV.b !(decide (Int.ofNat (CS.getQ c (1 : Int)) = Int.ofNat (a 1)) && (natsEq (CS.getD c (1 : Int)) (d 1) && true)))) T.e T.e)) T.e))) (T.n none (T.n
  none (T.n none (T.n (some (AV.i IntKind.i64 (Int.ofNat k))) T.e T.e) (T.n none (T.n (some (AV.i IntKind.i64 (1 : Int))) T.e T.e) T.e)) (T.n none (T.n none T.e (T.n (some (AV.p 3
  2)) T.e T.e)) (T.n none (T.n (some (AV.b (decide ((1 : Int) = i)))) T.e T.e) T.e))) (T.n none (T.n none (T.n none T.e (T.n (some (AV.p 1 0)) T.e T.e)) (T.n none (T.n (some (AV.b
  gd)) T.e T.e) T.e)) T.e)))) { tree := T.n (some (SS.o s)) (T.n (some (CS.oa c)) (T.n (some (AObj.cells 85 8 [AV.i IntKind.i64 (0 : Int), AV.s [], AV.i IntKind.i64 (0 : Int), AV.s [], AV.i IntKind.i64 (0 : Int), AV.s [], AV.i IntKind.i64 (0 : Int), AV.s []] (T.n (some (AV.i IntKind.i64 (Int.ofNat (a 0)))) (T.n (some (AV.s (d 0))) (T.n (some (AV.s (d 1))) (T.n (some (AV.s (d 3))) T.e T.e) T.e) (T.n (some (AV.s (d 2))) T.e T.e)) (T.n (some (AV.i IntKind.i64 (Int.ofNat (a 1)))) (T.n (some (AV.i IntKind.i64 (Int.ofNat (a 2)))) T.e T.e) (T.n (some (AV.i IntKind.i64 (Int.ofNat (a 3)))) T.e T.e))))) T.e T.e) T.e) (T.n (some (AObj.cells 75 4 [AV.i IntKind.i64 (0 : Int), AV.i IntKind.i64 (0 : Int), AV.s [], AV.b false] (T.n (some (AV.i IntKind.i64 kk)) (T.n (some (AV.i IntKind.i64 i)) (T.n (some (AV.b tt)) T.e T.e) T.e) (T.n (some (AV.s x)) T.e T.e)))) T.e T.e), next := 4, log := [] })
  Orc.z) ∧ ((!(decide (Int.ofNat (CS.getQ c (1 : Int)) = Int.ofNat (a 1)) && (natsEq (CS.getD c (1 : Int)) (d 1) && true))) = false → ((-9223372036854775808 : Int) ≤ (2 : Int) ∧ (2
  : Int) ≤ (9223372036854775807 : Int)) ∧ K (Res.st XO.nrm (T.n none (T.n none (T.n none (T.n none T.e (T.n none (T.n none T.e (T.n (some (AV.i IntKind.i64 (1 : Int))) T.e T.e))
  (T.n none (T.n (some (AV.i IntKind.i64 (1 : Int))) T.e T.e) T.e))) (T.n none (T.n none T.e (T.n none (T.n (some (AV.b true)) T.e T.e) T.e)) (T.n none (T.n none T.e (T.n (some
  (AV.agg [AV.i IntKind.i64 (Int.ofNat (a 1)), AV.s (d 1)])) T.e T.e)) (T.n none (T.n (some (AV.b (decide ((1 : Int) = i)))) T.e T.e) T.e)))) (T.n (some (AV.p 1 0)) (T.n (some (AV.p
  3 0)) (T.n none (T.n (some (AV.i IntKind.i64 (Int.ofNat L))) T.e T.e) T.e) (T.n none (T.n none T.e (T.n (some (AV.i IntKind.i64 (1 : Int))) T.e T.e)) (T.n none (T.n (some (AV.i
  IntKind.i64 i)) T.e T.e) T.e))) (T.n (some (AV.i IntKind.i64 (1 : Int))) (T.n none T.e (T.n none (T.n (some (AV.b gd)) T.e T.e) T.e)) (T.n none (T.n none T.e (T.n (some (AV.i
  IntKind.i64 (2 : Int))) T.e T.e)) T.e)))) (T.n none (T.n none (T.n (some (AV.p 2 0)) (T.n none (T.n (some (AV.sv 4 L (opF KK II XX TT))) T.e T.e) T.e) (T.n none (T.n none T.e (T.n
  (some (AV.agg [AV.i IntKind.i64 (Int.ofNat (CS.getQ c (1 : Int))), AV.s (CS.getD c (1 : Int))])) T.e T.e)) (T.n none (T.n (some (AV.p 2 1)) T.e T.e) T.e))) (T.n (some (AV.b gd))
  (T.n none T.e (T.n none (T.n (some (AV.i IntKind.i64 (1 : Int))) T.e T.e) T.e)) (T.n none (T.n none T.e (T.n (some (AV.b !(decide (Int.ofNat (CS.getQ c (1 : Int)) = Int.ofNat (a
  1)) && (natsEq (CS.getD c (1 : Int)) (d 1) && true)))) T.e T.e)) T.e))) (T.n none (T.n none (T.n none (T.n (some (AV.i IntKind.i64 (Int.ofNat k))) T.e T.e) (T.n none (T.n (some
  (AV.i IntKind.i64 (2 : Int))) T.e T.e) T.e)) (T.n none (T.n none T.e (T.n (some (AV.p 3 2)) T.e T.e)) (T.n none (T.n (some (AV.b (decide ((1 : Int) = i)))) T.e T.e) T.e))) (T.n
  none (T.n none (T.n none T.e (T.n (some (AV.p 1 0)) T.e T.e)) (T.n none (T.n (some (AV.b gd)) T.e T.e) T.e)) T.e)))) { tree := T.n (some (SS.o s)) (T.n (some (CS.oa c)) (T.n (some (AObj.cells 85 8 [AV.i IntKind.i64 (0 : Int), AV.s [], AV.i IntKind.i64 (0 : Int), AV.s [], AV.i IntKind.i64 (0 : Int), AV.s [], AV.i IntKind.i64 (0 : Int), AV.s []] (T.n (some (AV.i IntKind.i64 (Int.ofNat (a 0)))) (T.n (some (AV.s (d 0))) (T.n (some (AV.s (d 1))) (T.n (some (AV.s (d 3))) T.e T.e) T.e) (T.n (some (AV.s (d 2))) T.e T.e)) (T.n (some (AV.i IntKind.i64 (Int.ofNat (a 1)))) (T.n (some (AV.i IntKind.i64 (Int.ofNat (a 2)))) T.e T.e) (T.n (some (AV.i IntKind.i64 (Int.ofNat (a 3)))) T.e T.e))))) T.e T.e) T.e) (T.n (some (AObj.cells 75 4 [AV.i IntKind.i64 (0 : Int), AV.i IntKind.i64 (0 : Int), AV.s [], AV.b false] (T.n (some (AV.i IntKind.i64 kk)) (T.n (some (AV.i IntKind.i64 i)) (T.n (some (AV.b tt)) T.e T.e) T.e) (T.n (some (AV.s x)) T.e T.e)))) T.e T.e), next := 4, log := [] })
  Orc.z))) ∧ (gd = false → gd = false ∧ gd = false ∧ gd = false ∧ gd = false ∧ Con Tryd.prog 49 [AV.p 0 0, AV.i IntKind.i64 (1 : Int)] [some (CS.o c), some (SS.o s)] (AV.agg [AV.i
  IntKind.i64 (Int.ofNat (CS.getQ c (1 : Int))), AV.s (CS.getD c (1 : Int))]) [Upd.keep, Upd.keep] ∧ True ∧ ((!(decide (Int.ofNat (CS.getQ c (1 : Int)) = Int.ofNat (a 1)) && (natsEq
  (CS.getD c (1 : Int)) (d 1) && true))) = true → K (Res.st XO.ret (T.n none (T.n none (T.n none (T.n none T.e (T.n none (T.n none T.e (T.n (some (AV.i IntKind.i64 (1 : Int))) T.e
  T.e)) (T.n none (T.n (some (AV.tup [])) T.e T.e) T.e))) (T.n none (T.n none T.e (T.n none (T.n (some (AV.b true)) T.e T.e) T.e)) (T.n none (T.n none T.e (T.n (some (AV.agg [AV.i
  IntKind.i64 (Int.ofNat (a 1)), AV.s (d 1)])) T.e T.e)) (T.n none (T.n (some (AV.b false)) T.e T.e) T.e)))) (T.n (some (AV.p 1 0)) (T.n (some (AV.p 3 0)) (T.n none (T.n (some (AV.i
  IntKind.i64 (Int.ofNat L))) T.e T.e) T.e) (T.n none (T.n none T.e (T.n (some (AV.i IntKind.i64 (1 : Int))) T.e T.e)) (T.n none (T.n (some (AV.tup [])) T.e T.e) T.e))) (T.n (some
  (AV.i IntKind.i64 (1 : Int))) (T.n none T.e (T.n none (T.n (some (AV.b gd)) T.e T.e) T.e)) T.e))) (T.n (some (AV.b false)) (T.n none (T.n (some (AV.p 2 0)) (T.n none (T.n (some
  (AV.sv 4 L (opF KK II XX TT))) T.e T.e) T.e) (T.n none (T.n none T.e (T.n (some (AV.agg [AV.i IntKind.i64 (Int.ofNat (CS.getQ c (1 : Int))), AV.s (CS.getD c (1 : Int))])) T.e
  T.e)) (T.n none (T.n (some (AV.tup [])) T.e T.e) T.e))) (T.n (some (AV.b gd)) (T.n none T.e (T.n none (T.n (some (AV.i IntKind.i64 (1 : Int))) T.e T.e) T.e)) (T.n none (T.n none
  T.e (T.n (some (AV.b !(decide (Int.ofNat (CS.getQ c (1 : Int)) = Int.ofNat (a 1)) && (natsEq (CS.getD c (1 : Int)) (d 1) && true)))) T.e T.e)) T.e))) (T.n none (T.n none (T.n none
  (T.n (some (AV.i IntKind.i64 (Int.ofNat k))) T.e T.e) (T.n none (T.n (some (AV.i IntKind.i64 (1 : Int))) T.e T.e) T.e)) (T.n none (T.n none T.e (T.n (some (AV.p 3 2)) T.e T.e))
  (T.n none (T.n (some (AV.tup [])) T.e T.e) T.e))) (T.n none (T.n none (T.n none T.e (T.n (some (AV.p 1 0)) T.e T.e)) (T.n none (T.n (some (AV.b gd)) T.e T.e) T.e)) T.e)))) { tree := T.n (some (SS.o s)) (T.n (some (CS.oa c)) (T.n (some (AObj.cells 85 8 [AV.i IntKind.i64 (0 : Int), AV.s [], AV.i IntKind.i64 (0 : Int), AV.s [], AV.i IntKind.i64 (0 : Int), AV.s [], AV.i IntKind.i64 (0 : Int), AV.s []] (T.n (some (AV.i IntKind.i64 (Int.ofNat (a 0)))) (T.n (some (AV.s (d 0))) (T.n (some (AV.s (d 1))) (T.n (some (AV.s (d 3))) T.e T.e) T.e) (T.n (some (AV.s (d 2))) T.e T.e)) (T.n (some (AV.i IntKind.i64 (Int.ofNat (a 1)))) (T.n (some (AV.i IntKind.i64 (Int.ofNat (a 2)))) T.e T.e) (T.n (some (AV.i IntKind.i64 (Int.ofNat (a 3)))) T.e T.e))))) T.e T.e) T.e) (T.n (some (AObj.cells 75 4 [AV.i IntKind.i64 (0 : Int), AV.i IntKind.i64 (0 : Int), AV.s [], AV.b false] (T.n (some (AV.i IntKind.i64 kk)) (T.n (some (AV.i IntKind.i64 i)) (T.n (some (AV.b tt)) T.e T.e) T.e) (T.n (some (AV.s x)) T.e T.e)))) T.e T.e), next := 4, log := [] })
  Orc.z) ∧ ((!(decide (Int.ofNat (CS.getQ c (1 : Int)) = Int.ofNat (a 1)) && (natsEq (CS.getD c (1 : Int)) (d 1) && true))) = false → ((-9223372036854775808 : Int) ≤ (2 : Int) ∧ (2
  : Int) ≤ (9223372036854775807 : Int)) ∧ K (Res.st XO.nrm (T.n none (T.n none (T.n none (T.n none T.e (T.n none (T.n none T.e (T.n (some (AV.i IntKind.i64 (1 : Int))) T.e T.e))
  (T.n none (T.n (some (AV.tup [])) T.e T.e) T.e))) (T.n none (T.n none T.e (T.n none (T.n (some (AV.b true)) T.e T.e) T.e)) (T.n none (T.n none T.e (T.n (some (AV.agg [AV.i
  IntKind.i64 (Int.ofNat (a 1)), AV.s (d 1)])) T.e T.e)) (T.n none (T.n (some (AV.b false)) T.e T.e) T.e)))) (T.n (some (AV.p 1 0)) (T.n (some (AV.p 3 0)) (T.n none (T.n (some (AV.i
  IntKind.i64 (Int.ofNat L))) T.e T.e) T.e) (T.n none (T.n none T.e (T.n (some (AV.i IntKind.i64 (1 : Int))) T.e T.e)) (T.n none (T.n (some (AV.tup [])) T.e T.e) T.e))) (T.n (some
  (AV.i IntKind.i64 (1 : Int))) (T.n none T.e (T.n none (T.n (some (AV.b gd)) T.e T.e) T.e)) (T.n none (T.n none T.e (T.n (some (AV.i IntKind.i64 (2 : Int))) T.e T.e)) T.e)))) (T.n
  none (T.n none (T.n (some (AV.p 2 0)) (T.n none (T.n (some (AV.sv 4 L (opF KK II XX TT))) T.e T.e) T.e) (T.n none (T.n none T.e (T.n (some (AV.agg [AV.i IntKind.i64 (Int.ofNat
  (CS.getQ c (1 : Int))), AV.s (CS.getD c (1 : Int))])) T.e T.e)) (T.n none (T.n (some (AV.tup [])) T.e T.e) T.e))) (T.n (some (AV.b gd)) (T.n none T.e (T.n none (T.n (some (AV.i
  IntKind.i64 (1 : Int))) T.e T.e) T.e)) (T.n none (T.n none T.e (T.n (some (AV.b !(decide (Int.ofNat (CS.getQ c (1 : Int)) = Int.ofNat (a 1)) && (natsEq (CS.getD c (1 : Int)) (d 1)
  && true)))) T.e T.e)) T.e))) (T.n none (T.n none (T.n none (T.n (some (AV.i IntKind.i64 (Int.ofNat k))) T.e T.e) (T.n none (T.n (some (AV.i IntKind.i64 (2 : Int))) T.e T.e) T.e))
  (T.n none (T.n none T.e (T.n (some (AV.p 3 2)) T.e T.e)) (T.n none (T.n (some (AV.tup [])) T.e T.e) T.e))) (T.n none (T.n none (T.n none T.e (T.n (some (AV.p 1 0)) T.e T.e)) (T.n
  none (T.n (some (AV.b gd)) T.e T.e) T.e)) T.e)))) { tree := T.n (some (SS.o s)) (T.n (some (CS.oa c)) (T.n (some (AObj.cells 85 8 [AV.i IntKind.i64 (0 : Int), AV.s [], AV.i IntKind.i64 (0 : Int), AV.s [], AV.i IntKind.i64 (0 : Int), AV.s [], AV.i IntKind.i64 (0 : Int), AV.s []] (T.n (some (AV.i IntKind.i64 (Int.ofNat (a 0)))) (T.n (some (AV.s (d 0))) (T.n (some (AV.s (d 1))) (T.n (some (AV.s (d 3))) T.e T.e) T.e) (T.n (some (AV.s (d 2))) T.e T.e)) (T.n (some (AV.i IntKind.i64 (Int.ofNat (a 1)))) (T.n (some (AV.i IntKind.i64 (Int.ofNat (a 2)))) T.e T.e) (T.n (some (AV.i IntKind.i64 (Int.ofNat (a 3)))) T.e T.e))))) T.e T.e) T.e) (T.n (some (AObj.cells 75 4 [AV.i IntKind.i64 (0 : Int), AV.i IntKind.i64 (0 : Int), AV.s [], AV.b false] (T.n (some (AV.i IntKind.i64 kk)) (T.n (some (AV.i IntKind.i64 i)) (T.n (some (AV.b tt)) T.e T.e) T.e) (T.n (some (AV.s x)) T.e T.e)))) T.e T.e), next := 4, log := [] })
  Orc.z))) := by kernel_rfl

theorem grow2_vc (c : CS) (s : SS) (L k : Nat) (KK II : Nat → Int) (XX : Nat → List Nat) (TT : Nat → Bool) (a : Nat → Nat) (d : Nat → List Nat) (kk i : Int) (x : List Nat) (gd tt :
  Bool) (K : Res → Orc → Prop) : runK Tryd.prog 1000000 (.code (loopAt Tryd.prog 13 2) 125 (mkT [(5, .p 1 0), (8, .p 2 0), (9, .p 3 0), (12, .b gd), (32, .sv 4 L (opF KK II XX TT)),
  (33, .i .i64 (Int.ofNat L)), (34, .i .i64 (Int.ofNat k)), (82, .i .i64 2)]) (mkH [some s.o, some c.oa, some (opO kk i x tt), some (wasO a d)])) (Orc.c (Orc.s (Orc.t (Orc.t (Orc.t
  (Orc.t (Orc.s (Orc.c (Orc.c (Orc.cal [1, 0] (AV.agg [AV.i IntKind.i64 (Int.ofNat (CS.getQ c (2 : Int))), AV.s (CS.getD c (2 : Int))]) [Upd.keep, Upd.keep] (Orc.c (Orc.s Orc.z
  Orc.z))))) (Orc.cal [1, 0] (AV.agg [AV.i IntKind.i64 (Int.ofNat (CS.getQ c (2 : Int))), AV.s (CS.getD c (2 : Int))]) [Upd.keep, Upd.keep] (Orc.c (Orc.s Orc.z Orc.z)))))))) (Orc.f
  (Orc.f (Orc.f (Orc.f (Orc.c (Orc.cal [1, 0] (AV.agg [AV.i IntKind.i64 (Int.ofNat (CS.getQ c (2 : Int))), AV.s (CS.getD c (2 : Int))]) [Upd.keep, Upd.keep] (Orc.c (Orc.s Orc.z
  Orc.z)))))))))) K = ((gd = true → gd = true ∧ True ∧ gd = true ∧ gd = true ∧ gd = true ∧ (decide ((2 : Int) = i) = true → True ∧ ((-9223372036854775808 : Int) ≤ Int.ofNat (a 2) +
  (1 : Int) ∧ Int.ofNat (a 2) + (1 : Int) ≤ (9223372036854775807 : Int)) ∧ True ∧ Con Tryd.prog 49 [AV.p 0 0, AV.i IntKind.i64 (2 : Int)] [some (CS.o c), some (SS.o s)] (AV.agg
  [AV.i IntKind.i64 (Int.ofNat (CS.getQ c (2 : Int))), AV.s (CS.getD c (2 : Int))]) [Upd.keep, Upd.keep] ∧ True ∧ ((!(decide (Int.ofNat (CS.getQ c (2 : Int)) = Int.ofNat (a 2) + (1
  : Int)) && (natsEq (CS.getD c (2 : Int)) x && true))) = true → K (Res.st XO.ret (T.n none (T.n none (T.n none (T.n none (T.n none (T.n none T.e (T.n (some (AV.p 3 4)) T.e T.e))
  T.e) (T.n none (T.n none T.e (T.n (some (AV.i IntKind.i64 (2 : Int))) T.e T.e)) (T.n none (T.n (some (AV.i IntKind.i64 (2 : Int))) T.e T.e) T.e))) (T.n none (T.n none (T.n none
  T.e (T.n (some (AV.s x)) T.e T.e)) (T.n none (T.n (some (AV.b true)) T.e T.e) T.e)) (T.n none (T.n none T.e (T.n (some (AV.agg [AV.i IntKind.i64 (Int.ofNat (a 2) + (1 : Int)),
  AV.s x])) T.e T.e)) (T.n none (T.n (some (AV.b (decide ((2 : Int) = i)))) T.e T.e) T.e)))) (T.n (some (AV.p 1 0)) (T.n (some (AV.p 3 0)) (T.n none (T.n (some (AV.i IntKind.i64
  (Int.ofNat L))) T.e (T.n (some (AV.i IntKind.i64 (Int.ofNat (a 2) + (1 : Int)))) T.e T.e)) T.e) (T.n none (T.n none T.e (T.n (some (AV.i IntKind.i64 (2 : Int))) T.e T.e)) (T.n
  none (T.n (some (AV.i IntKind.i64 i)) T.e T.e) T.e))) (T.n (some (AV.i IntKind.i64 (2 : Int))) (T.n none (T.n none T.e (T.n (some (AV.p 3 4)) T.e T.e)) (T.n none (T.n (some (AV.b
  gd)) T.e T.e) T.e)) (T.n none T.e (T.n none (T.n (some (AV.i IntKind.i64 (2 : Int))) T.e T.e) T.e))))) (T.n (some (AV.b false)) (T.n none (T.n (some (AV.p 2 0)) (T.n none (T.n
  (some (AV.sv 4 L (opF KK II XX TT))) T.e (T.n (some (AV.i IntKind.i64 (Int.ofNat (a 2)))) T.e T.e)) T.e) (T.n none (T.n none T.e (T.n (some (AV.agg [AV.i IntKind.i64 (Int.ofNat
  (CS.getQ c (2 : Int))), AV.s (CS.getD c (2 : Int))])) T.e T.e)) (T.n none (T.n (some (AV.p 2 1)) T.e T.e) T.e))) (T.n (some (AV.b gd)) (T.n none (T.n none T.e (T.n (some (AV.agg
  [AV.i IntKind.i64 (Int.ofNat (a 2) + (1 : Int)), AV.s x])) T.e T.e)) (T.n none (T.n (some (AV.i IntKind.i64 (2 : Int))) T.e T.e) T.e)) (T.n none (T.n none T.e (T.n (some (AV.b
  !(decide (Int.ofNat (CS.getQ c (2 : Int)) = Int.ofNat (a 2) + (1 : Int)) && (natsEq (CS.getD c (2 : Int)) x && true)))) T.e T.e)) (T.n none (T.n (some (AV.i IntKind.i64 (2 :
  Int))) T.e T.e) T.e)))) (T.n none (T.n none (T.n none (T.n (some (AV.i IntKind.i64 (Int.ofNat k))) T.e (T.n (some (AV.p 2 2)) T.e T.e)) (T.n none (T.n (some (AV.i IntKind.i64 (2 :
  Int))) T.e T.e) T.e)) (T.n none (T.n none T.e (T.n (some (AV.p 3 4)) T.e T.e)) (T.n none (T.n (some (AV.b (decide ((2 : Int) = i)))) T.e T.e) T.e))) (T.n none (T.n none (T.n none
  T.e (T.n (some (AV.p 1 0)) T.e T.e)) (T.n none (T.n (some (AV.b gd)) T.e T.e) T.e)) (T.n none T.e (T.n none (T.n (some (AV.p 3 4)) T.e T.e) T.e)))))) { tree := T.n (some (SS.o s)) (T.n (some (CS.oa c)) (T.n (some (AObj.cells 85 8 [AV.i IntKind.i64 (0 : Int), AV.s [], AV.i IntKind.i64 (0 : Int), AV.s [], AV.i IntKind.i64 (0 : Int), AV.s [], AV.i IntKind.i64 (0 : Int), AV.s []] (T.n (some (AV.i IntKind.i64 (Int.ofNat (a 0)))) (T.n (some (AV.s (d 0))) (T.n (some (AV.s (d 1))) (T.n (some (AV.s (d 3))) T.e T.e) T.e) (T.n (some (AV.s x)) T.e T.e)) (T.n (some (AV.i IntKind.i64 (Int.ofNat (a 1)))) (T.n (some (AV.i IntKind.i64 (Int.ofNat (a 2) + (1 : Int)))) T.e T.e) (T.n (some (AV.i IntKind.i64 (Int.ofNat (a 3)))) T.e T.e))))) T.e T.e) T.e) (T.n (some (AObj.cells 75 4 [AV.i IntKind.i64 (0 : Int), AV.i IntKind.i64 (0 : Int), AV.s [], AV.b false] (T.n (some (AV.i IntKind.i64 kk)) (T.n (some (AV.i IntKind.i64 i)) (T.n (some (AV.b tt)) T.e T.e) T.e) (T.n (some (AV.s x)) T.e T.e)))) T.e T.e), next := 4, log := [3] })
  Orc.z) ∧ ((!(decide (Int.ofNat (CS.getQ c (2 : Int)) = Int.ofNat (a 2) + (1 : Int)) && (natsEq (CS.getD c (2 : Int)) x && true))) = false → ((-9223372036854775808 : Int) ≤ (3 :
  Int) ∧ (3 : Int) ≤ (9223372036854775807 : Int)) ∧ K (Res.st XO.nrm (T.n none (T.n none (T.n none (T.n none (T.n none (T.n none T.e (T.n (some (AV.p 3 4)) T.e T.e)) T.e) (T.n none
  (T.n none T.e (T.n (some (AV.i IntKind.i64 (2 : Int))) T.e T.e)) (T.n none (T.n (some (AV.i IntKind.i64 (2 : Int))) T.e T.e) T.e))) (T.n none (T.n none (T.n none T.e (T.n (some
  (AV.s x)) T.e T.e)) (T.n none (T.n (some (AV.b true)) T.e T.e) T.e)) (T.n none (T.n none T.e (T.n (some (AV.agg [AV.i IntKind.i64 (Int.ofNat (a 2) + (1 : Int)), AV.s x])) T.e
  T.e)) (T.n none (T.n (some (AV.b (decide ((2 : Int) = i)))) T.e T.e) T.e)))) (T.n (some (AV.p 1 0)) (T.n (some (AV.p 3 0)) (T.n none (T.n (some (AV.i IntKind.i64 (Int.ofNat L)))
  T.e (T.n (some (AV.i IntKind.i64 (Int.ofNat (a 2) + (1 : Int)))) T.e T.e)) T.e) (T.n none (T.n none T.e (T.n (some (AV.i IntKind.i64 (2 : Int))) T.e T.e)) (T.n none (T.n (some
  (AV.i IntKind.i64 i)) T.e T.e) T.e))) (T.n (some (AV.i IntKind.i64 (2 : Int))) (T.n none (T.n none T.e (T.n (some (AV.p 3 4)) T.e T.e)) (T.n none (T.n (some (AV.b gd)) T.e T.e)
  T.e)) (T.n none (T.n none T.e (T.n (some (AV.i IntKind.i64 (3 : Int))) T.e T.e)) (T.n none (T.n (some (AV.i IntKind.i64 (2 : Int))) T.e T.e) T.e))))) (T.n none (T.n none (T.n
  (some (AV.p 2 0)) (T.n none (T.n (some (AV.sv 4 L (opF KK II XX TT))) T.e (T.n (some (AV.i IntKind.i64 (Int.ofNat (a 2)))) T.e T.e)) T.e) (T.n none (T.n none T.e (T.n (some
  (AV.agg [AV.i IntKind.i64 (Int.ofNat (CS.getQ c (2 : Int))), AV.s (CS.getD c (2 : Int))])) T.e T.e)) (T.n none (T.n (some (AV.p 2 1)) T.e T.e) T.e))) (T.n (some (AV.b gd)) (T.n
  none (T.n none T.e (T.n (some (AV.agg [AV.i IntKind.i64 (Int.ofNat (a 2) + (1 : Int)), AV.s x])) T.e T.e)) (T.n none (T.n (some (AV.i IntKind.i64 (2 : Int))) T.e T.e) T.e)) (T.n
  none (T.n none T.e (T.n (some (AV.b !(decide (Int.ofNat (CS.getQ c (2 : Int)) = Int.ofNat (a 2) + (1 : Int)) && (natsEq (CS.getD c (2 : Int)) x && true)))) T.e T.e)) (T.n none
  (T.n (some (AV.i IntKind.i64 (2 : Int))) T.e T.e) T.e)))) (T.n none (T.n none (T.n none (T.n (some (AV.i IntKind.i64 (Int.ofNat k))) T.e (T.n (some (AV.p 2 2)) T.e T.e)) (T.n none
  (T.n (some (AV.i IntKind.i64 (3 : Int))) T.e T.e) T.e)) (T.n none (T.n none T.e (T.n (some (AV.p 3 4)) T.e T.e)) (T.n none (T.n (some (AV.b (decide ((2 : Int) = i)))) T.e T.e)
  T.e))) (T.n none (T.n none (T.n none T.e (T.n (some (AV.p 1 0)) T.e T.e)) (T.n none (T.n (some (AV.b gd)) T.e T.e) T.e)) (T.n none T.e (T.n none (T.n (some (AV.p 3 4)) T.e T.e)
  T.e)))))) { tree := T.n (some (SS.o s)) (T.n (some (CS.oa c)) (T.n (some (AObj.cells 85 8 [AV.i IntKind.i64 (0 : Int), AV.s [], AV.i IntKind.i64 (0 : Int), AV.s [], AV.i IntKind.i64 (0 : Int), AV.s [], AV.i IntKind.i64 (0 : Int), AV.s []] (T.n (some (AV.i IntKind.i64 (Int.ofNat (a 0)))) (T.n (some (AV.s (d 0))) (T.n (some (AV.s (d 1))) (T.n (some (AV.s (d 3))) T.e T.e) T.e) (T.n (some (AV.s x)) T.e T.e)) (T.n (some (AV.i IntKind.i64 (Int.ofNat (a 1)))) (T.n (some (AV.i IntKind.i64 (Int.ofNat (a 2) + (1 : Int)))) T.e T.e) (T.n (some (AV.i IntKind.i64 (Int.ofNat (a 3)))) T.e T.e))))) T.e T.e) T.e) (T.n (some (AObj.cells 75 4 [AV.i IntKind.i64 (0 : Int), AV.i IntKind.i64 (0 : Int), AV.s [], AV.b false] (T.n (some (AV.i IntKind.i64 kk)) (T.n (some (AV.i IntKind.i64 i)) (T.n (some (AV.b tt)) T.e T.e) T.e) (T.n (some (AV.s x)) T.e T.e)))) T.e T.e), next := 4, log := [3] })
  Orc.z)) ∧ (decide ((2 : Int) = i) = false → Con Tryd.prog 49 [AV.p 0 0, AV.i IntKind.i64 (2 : Int)] [some (CS.o c), some (SS.o s)] (AV.agg [AV.i IntKind.i64 (Int.ofNat (CS.getQ c
  (2 : Int))), AV.s (CS.getD c (2 : Int))]) [Upd.keep, Upd.keep] ∧ True ∧ ((!(decide (Int.ofNat (CS.getQ c (2 : Int)) = Int.ofNat (a 2)) && (natsEq (CS.getD c (2 : Int)) (d 2) &&
  true))) = true → K (Res.st XO.ret (T.n none (T.n none (T.n none (T.n none T.e (T.n none (T.n none T.e (T.n (some (AV.i IntKind.i64 (2 : Int))) T.e T.e)) (T.n none (T.n (some (AV.i
  IntKind.i64 (2 : Int))) T.e T.e) T.e))) (T.n none (T.n none T.e (T.n none (T.n (some (AV.b true)) T.e T.e) T.e)) (T.n none (T.n none T.e (T.n (some (AV.agg [AV.i IntKind.i64
  (Int.ofNat (a 2)), AV.s (d 2)])) T.e T.e)) (T.n none (T.n (some (AV.b (decide ((2 : Int) = i)))) T.e T.e) T.e)))) (T.n (some (AV.p 1 0)) (T.n (some (AV.p 3 0)) (T.n none (T.n
  (some (AV.i IntKind.i64 (Int.ofNat L))) T.e T.e) T.e) (T.n none (T.n none T.e (T.n (some (AV.i IntKind.i64 (2 : Int))) T.e T.e)) (T.n none (T.n (some (AV.i IntKind.i64 i)) T.e
  T.e) T.e))) (T.n (some (AV.i IntKind.i64 (2 : Int))) (T.n none T.e (T.n none (T.n (some (AV.b gd)) T.e T.e) T.e)) T.e))) (T.n (some (AV.b false)) (T.n none (T.n (some (AV.p 2 0))
  (T.n none (T.n (some (AV.sv 4 L (opF KK II XX TT))) T.e T.e) T.e) (T.n none (T.n none T.e (T.n (some (AV.agg [AV.i IntKind.i64 (Int.ofNat (CS.getQ c (2 : Int))), AV.s (CS.getD c
  (2 : Int))])) T.e T.e)) (T.n none (T.n (some (AV.p 2 1)) T.e T.e) T.e))) (T.n (some (AV.b gd)) (T.n none T.e (T.n none (T.n (some (AV.i IntKind.i64 (2 : Int))) T.e T.e) T.e)) (T.n
  none (T.n none T.e (T.n (some (AV.b !(decide (Int.ofNat (CS.getQ c (2 : Int)) = Int.ofNat (a 2)) && (natsEq (CS.getD c (2 : Int)) (d 2) && true)))) T.e T.e)) T.e))) (T.n none (T.n
  none (T.n none (T.n (some (AV.i IntKind.i64 (Int.ofNat k))) T.e T.e) (T.n none (T.n (some (AV.i IntKind.i64 (2 : Int))) T.e T.e) T.e)) (T.n none (T.n none T.e (T.n (some (AV.p 3
  4)) T.e T.e)) (T.n none (T.n (some (AV.b (decide ((2 : Int) = i)))) T.e T.e) T.e))) (T.n none (T.n none (T.n none T.e (T.n (some (AV.p 1 0)) T.e T.e)) (T.n none (T.n (some (AV.b
  gd)) T.e T.e) T.e)) T.e)))) { tree := T.n (some (SS.o s)) (T.n (some (CS.oa c)) (T.n (some (AObj.cells 85 8 [AV.i IntKind.i64 (0 : Int), AV.s [], AV.i IntKind.i64 (0 : Int), AV.s [], AV.i IntKind.i64 (0 : Int), AV.s [], AV.i IntKind.i64 (0 : Int), AV.s []] (T.n (some (AV.i IntKind.i64 (Int.ofNat (a 0)))) (T.n (some (AV.s (d 0))) (T.n (some (AV.s (d 1))) (T.n (some (AV.s (d 3))) T.e T.e) T.e) (T.n (some (AV.s (d 2))) T.e T.e)) (T.n (some (AV.i IntKind.i64 (Int.ofNat (a 1)))) (T.n (some (AV.i IntKind.i64 (Int.ofNat (a 2)))) T.e T.e) (T.n (some (AV.i IntKind.i64 (Int.ofNat (a 3)))) T.e T.e))))) T.e T.e) T.e) (T.n (some (AObj.cells 75 4 [AV.i IntKind.i64 (0 : Int), AV.i IntKind.i64 (0 : Int), AV.s [], AV.b false] (T.n (some (AV.i IntKind.i64 kk)) (T.n (some (AV.i IntKind.i64 i)) (T.n (some (AV.b tt)) T.e T.e) T.e) (T.n (some (AV.s x)) T.e T.e)))) T.e T.e), next := 4, log := [] })
  Orc.z) ∧ ((!(decide (Int.ofNat (CS.getQ c (2 : Int)) = Int.ofNat (a 2)) && (natsEq (CS.getD c (2 : Int)) (d 2) && true))) = false → ((-9223372036854775808 : Int) ≤ (3 : Int) ∧ (3
  : Int) ≤ (9223372036854775807 : Int)) ∧ K (Res.st XO.nrm (T.n none (T.n none (T.n none (T.n none T.e (T.n none (T.n none T.e (T.n (some (AV.i IntKind.i64 (2 : Int))) T.e T.e))
  (T.n none (T.n (some (AV.i IntKind.i64 (2 : Int))) T.e T.e) T.e))) (T.n none (T.n none T.e (T.n none (T.n (some (AV.b true)) T.e T.e) T.e)) (T.n none (T.n none T.e (T.n (some
  (AV.agg [AV.i IntKind.i64 (Int.ofNat (a 2)), AV.s (d 2)])) T.e T.e)) (T.n none (T.n (some (AV.b (decide ((2 : Int) = i)))) T.e T.e) T.e)))) (T.n (some (AV.p 1 0)) (T.n (some (AV.p
  3 0)) (T.n none (T.n (some (AV.i IntKind.i64 (Int.ofNat L))) T.e T.e) T.e) (T.n none (T.n none T.e (T.n (some (AV.i IntKind.i64 (2 : Int))) T.e T.e)) (T.n none (T.n (some (AV.i
  IntKind.i64 i)) T.e T.e) T.e))) (T.n (some (AV.i IntKind.i64 (2 : Int))) (T.n none T.e (T.n none (T.n (some (AV.b gd)) T.e T.e) T.e)) (T.n none (T.n none T.e (T.n (some (AV.i
  IntKind.i64 (3 : Int))) T.e T.e)) T.e)))) (T.n none (T.n none (T.n (some (AV.p 2 0)) (T.n none (T.n (some (AV.sv 4 L (opF KK II XX TT))) T.e T.e) T.e) (T.n none (T.n none T.e (T.n
  (some (AV.agg [AV.i IntKind.i64 (Int.ofNat (CS.getQ c (2 : Int))), AV.s (CS.getD c (2 : Int))])) T.e T.e)) (T.n none (T.n (some (AV.p 2 1)) T.e T.e) T.e))) (T.n (some (AV.b gd))
  (T.n none T.e (T.n none (T.n (some (AV.i IntKind.i64 (2 : Int))) T.e T.e) T.e)) (T.n none (T.n none T.e (T.n (some (AV.b !(decide (Int.ofNat (CS.getQ c (2 : Int)) = Int.ofNat (a
  2)) && (natsEq (CS.getD c (2 : Int)) (d 2) && true)))) T.e T.e)) T.e))) (T.n none (T.n none (T.n none (T.n (some (AV.i IntKind.i64 (Int.ofNat k))) T.e T.e) (T.n none (T.n (some
  (AV.i IntKind.i64 (3 : Int))) T.e T.e) T.e)) (T.n none (T.n none T.e (T.n (some (AV.p 3 4)) T.e T.e)) (T.n none (T.n (some (AV.b (decide ((2 : Int) = i)))) T.e T.e) T.e))) (T.n
  none (T.n none (T.n none T.e (T.n (some (AV.p 1 0)) T.e T.e)) (T.n none (T.n (some (AV.b gd)) T.e T.e) T.e)) T.e)))) { tree := T.n (some (SS.o s)) (T.n (some (CS.oa c)) (T.n (some (AObj.cells 85 8 [AV.i IntKind.i64 (0 : Int), AV.s [], AV.i IntKind.i64 (0 : Int), AV.s [], AV.i IntKind.i64 (0 : Int), AV.s [], AV.i IntKind.i64 (0 : Int), AV.s []] (T.n (some (AV.i IntKind.i64 (Int.ofNat (a 0)))) (T.n (some (AV.s (d 0))) (T.n (some (AV.s (d 1))) (T.n (some (AV.s (d 3))) T.e T.e) T.e) (T.n (some (AV.s (d 2))) T.e T.e)) (T.n (some (AV.i IntKind.i64 (Int.ofNat (a 1)))) (T.n (some (AV.i IntKind.i64 (Int.ofNat (a 2)))) T.e T.e) (T.n (some (AV.i IntKind.i64 (Int.ofNat (a 3)))) T.e T.e))))) T.e T.e) T.e) (T.n (some (AObj.cells 75 4 [AV.i IntKind.i64 (0 : Int), AV.i IntKind.i64 (0 : Int), AV.s [], AV.b false] (T.n (some (AV.i IntKind.i64 kk)) (T.n (some (AV.i IntKind.i64 i)) (T.n (some (AV.b tt)) T.e T.e) T.e) (T.n (some (AV.s x)) T.e T.e)))) T.e T.e), next := 4, log := [] })
  Orc.z))) ∧ (gd = false → gd = false ∧ gd = false ∧ gd = false ∧ gd = false ∧ Con Tryd.prog 49 [AV.p 0 0, AV.i IntKind.i64 (2 : Int)] [some (CS.o c), some (SS.o s)] (AV.agg [AV.i
  IntKind.i64 (Int.ofNat (CS.getQ c (2 : Int))), AV.s (CS.getD c (2 : Int))]) [Upd.keep, Upd.keep] ∧ True ∧ ((!(decide (Int.ofNat (CS.getQ c (2 : Int)) = Int.ofNat (a 2)) && (natsEq
  (CS.getD c (2 : Int)) (d 2) && true))) = true → K (Res.st XO.ret (T.n none (T.n none (T.n none (T.n none T.e (T.n none (T.n none T.e (T.n (some (AV.i IntKind.i64 (2 : Int))) T.e
  T.e)) (T.n none (T.n (some (AV.tup [])) T.e T.e) T.e))) (T.n none (T.n none T.e (T.n none (T.n (some (AV.b true)) T.e T.e) T.e)) (T.n none (T.n none T.e (T.n (some (AV.agg [AV.i
  IntKind.i64 (Int.ofNat (a 2)), AV.s (d 2)])) T.e T.e)) (T.n none (T.n (some (AV.b false)) T.e T.e) T.e)))) (T.n (some (AV.p 1 0)) (T.n (some (AV.p 3 0)) (T.n none (T.n (some (AV.i
  IntKind.i64 (Int.ofNat L))) T.e T.e) T.e) (T.n none (T.n none T.e (T.n (some (AV.i IntKind.i64 (2 : Int))) T.e T.e)) (T.n none (T.n (some (AV.tup [])) T.e T.e) T.e))) (T.n (some
  (AV.i IntKind.i64 (2 : Int))) (T.n none T.e (T.n none (T.n (some (AV.b gd)) T.e T.e) T.e)) T.e))) (T.n (some (AV.b false)) (T.n none (T.n (some (AV.p 2 0)) (T.n none (T.n (some
  (AV.sv 4 L (opF KK II XX TT))) T.e T.e) T.e) (T.n none (T.n none T.e (T.n (some (AV.agg [AV.i IntKind.i64 (Int.ofNat (CS.getQ c (2 : Int))), AV.s (CS.getD c (2 : Int))])) T.e
  T.e)) (T.n none (T.n (some (AV.tup [])) T.e T.e) T.e))) (T.n (some (AV.b gd)) (T.n none T.e (T.n none (T.n (some (AV.i IntKind.i64 (2 : Int))) T.e T.e) T.e)) (T.n none (T.n none
  T.e (T.n (some (AV.b !(decide (Int.ofNat (CS.getQ c (2 : Int)) = Int.ofNat (a 2)) && (natsEq (CS.getD c (2 : Int)) (d 2) && true)))) T.e T.e)) T.e))) (T.n none (T.n none (T.n none
  (T.n (some (AV.i IntKind.i64 (Int.ofNat k))) T.e T.e) (T.n none (T.n (some (AV.i IntKind.i64 (2 : Int))) T.e T.e) T.e)) (T.n none (T.n none T.e (T.n (some (AV.p 3 4)) T.e T.e))
  (T.n none (T.n (some (AV.tup [])) T.e T.e) T.e))) (T.n none (T.n none (T.n none T.e (T.n (some (AV.p 1 0)) T.e T.e)) (T.n none (T.n (some (AV.b gd)) T.e T.e) T.e)) T.e)))) { tree := T.n (some (SS.o s)) (T.n (some (CS.oa c)) (T.n (some (AObj.cells 85 8 [AV.i IntKind.i64 (0 : Int), AV.s [], AV.i IntKind.i64 (0 : Int), AV.s [], AV.i IntKind.i64 (0 : Int), AV.s [], AV.i IntKind.i64 (0 : Int), AV.s []] (T.n (some (AV.i IntKind.i64 (Int.ofNat (a 0)))) (T.n (some (AV.s (d 0))) (T.n (some (AV.s (d 1))) (T.n (some (AV.s (d 3))) T.e T.e) T.e) (T.n (some (AV.s (d 2))) T.e T.e)) (T.n (some (AV.i IntKind.i64 (Int.ofNat (a 1)))) (T.n (some (AV.i IntKind.i64 (Int.ofNat (a 2)))) T.e T.e) (T.n (some (AV.i IntKind.i64 (Int.ofNat (a 3)))) T.e T.e))))) T.e T.e) T.e) (T.n (some (AObj.cells 75 4 [AV.i IntKind.i64 (0 : Int), AV.i IntKind.i64 (0 : Int), AV.s [], AV.b false] (T.n (some (AV.i IntKind.i64 kk)) (T.n (some (AV.i IntKind.i64 i)) (T.n (some (AV.b tt)) T.e T.e) T.e) (T.n (some (AV.s x)) T.e T.e)))) T.e T.e), next := 4, log := [] })
  Orc.z) ∧ ((!(decide (Int.ofNat (CS.getQ c (2 : Int)) = Int.ofNat (a 2)) && (natsEq (CS.getD c (2 : Int)) (d 2) && true))) = false → ((-9223372036854775808 : Int) ≤ (3 : Int) ∧ (3
  : Int) ≤ (9223372036854775807 : Int)) ∧ K (Res.st XO.nrm (T.n none (T.n none (T.n none (T.n none T.e (T.n none (T.n none T.e (T.n (some (AV.i IntKind.i64 (2 : Int))) T.e T.e))
  (T.n none (T.n (some (AV.tup [])) T.e T.e) T.e))) (T.n none (T.n none T.e (T.n none (T.n (some (AV.b true)) T.e T.e) T.e)) (T.n none (T.n none T.e (T.n (some (AV.agg [AV.i
  IntKind.i64 (Int.ofNat (a 2)), AV.s (d 2)])) T.e T.e)) (T.n none (T.n (some (AV.b false)) T.e T.e) T.e)))) (T.n (some (AV.p 1 0)) (T.n (some (AV.p 3 0)) (T.n none (T.n (some (AV.i
  IntKind.i64 (Int.ofNat L))) T.e T.e) T.e) (T.n none (T.n none T.e (T.n (some (AV.i IntKind.i64 (2 : Int))) T.e T.e)) (T.n none (T.n (some (AV.tup [])) T.e T.e) T.e))) (T.n (some
  (AV.i IntKind.i64 (2 : Int))) (T.n none T.e (T.n none (T.n (some (AV.b gd)) T.e T.e) T.e)) (T.n none (T.n none T.e (T.n (some (AV.i IntKind.i64 (3 : Int))) T.e T.e)) T.e)))) (T.n
  none (T.n none (T.n (some (AV.p 2 0)) (T.n none (T.n (some (AV.sv 4 L (opF KK II XX TT))) T.e T.e) T.e) (T.n none (T.n none T.e (T.n (some (AV.agg [AV.i IntKind.i64 (Int.ofNat
  (CS.getQ c (2 : Int))), AV.s (CS.getD c (2 : Int))])) T.e T.e)) (T.n none (T.n (some (AV.tup [])) T.e T.e) T.e))) (T.n (some (AV.b gd)) (T.n none T.e (T.n none (T.n (some (AV.i
  IntKind.i64 (2 : Int))) T.e T.e) T.e)) (T.n none (T.n none T.e (T.n (some (AV.b !(decide (Int.ofNat (CS.getQ c (2 : Int)) = Int.ofNat (a 2)) && (natsEq (CS.getD c (2 : Int)) (d 2)
  && true)))) T.e T.e)) T.e))) (T.n none (T.n none (T.n none (T.n (some (AV.i IntKind.i64 (Int.ofNat k))) T.e T.e) (T.n none (T.n (some (AV.i IntKind.i64 (3 : Int))) T.e T.e) T.e))
  (T.n none (T.n none T.e (T.n (some (AV.p 3 4)) T.e T.e)) (T.n none (T.n (some (AV.tup [])) T.e T.e) T.e))) (T.n none (T.n none (T.n none T.e (T.n (some (AV.p 1 0)) T.e T.e)) (T.n
  none (T.n (some (AV.b gd)) T.e T.e) T.e)) T.e)))) { tree := T.n (some (SS.o s)) (T.n (some (CS.oa c)) (T.n (some (AObj.cells 85 8 [AV.i IntKind.i64 (0 : Int), AV.s [], AV.i IntKind.i64 (0 : Int), AV.s [], AV.i IntKind.i64 (0 : Int), AV.s [], AV.i IntKind.i64 (0 : Int), AV.s []] (T.n (some (AV.i IntKind.i64 (Int.ofNat (a 0)))) (T.n (some (AV.s (d 0))) (T.n (some (AV.s (d 1))) (T.n (some (AV.s (d 3))) T.e T.e) T.e) (T.n (some (AV.s (d 2))) T.e T.e)) (T.n (some (AV.i IntKind.i64 (Int.ofNat (a 1)))) (T.n (some (AV.i IntKind.i64 (Int.ofNat (a 2)))) T.e T.e) (T.n (some (AV.i IntKind.i64 (Int.ofNat (a 3)))) T.e T.e))))) T.e T.e) T.e) (T.n (some (AObj.cells 75 4 [AV.i IntKind.i64 (0 : Int), AV.i IntKind.i64 (0 : Int), AV.s [], AV.b false] (T.n (some (AV.i IntKind.i64 kk)) (T.n (some (AV.i IntKind.i64 i)) (T.n (some (AV.b tt)) T.e T.e) T.e) (T.n (some (AV.s x)) T.e T.e)))) T.e T.e), next := 4, log := [] })
  Orc.z))) := by kernel_rfl

theorem grow3_vc (c : CS) (s : SS) (L k : Nat) (KK II : Nat → Int) (XX : Nat → List Nat) (TT : Nat → Bool) (a : Nat → Nat) (d : Nat → List Nat) (kk i : Int) (x : List Nat) (gd tt :
  Bool) (K : Res → Orc → Prop) : runK Tryd.prog 1000000 (.code (loopAt Tryd.prog 13 2) 125 (mkT [(5, .p 1 0), (8, .p 2 0), (9, .p 3 0), (12, .b gd), (32, .sv 4 L (opF KK II XX TT)),
  (33, .i .i64 (Int.ofNat L)), (34, .i .i64 (Int.ofNat k)), (82, .i .i64 3)]) (mkH [some s.o, some c.oa, some (opO kk i x tt), some (wasO a d)])) (Orc.c (Orc.s (Orc.t (Orc.t (Orc.t
  (Orc.t (Orc.s (Orc.c (Orc.c (Orc.cal [1, 0] (AV.agg [AV.i IntKind.i64 (Int.ofNat (CS.getQ c (3 : Int))), AV.s (CS.getD c (3 : Int))]) [Upd.keep, Upd.keep] (Orc.c (Orc.s Orc.z
  Orc.z))))) (Orc.cal [1, 0] (AV.agg [AV.i IntKind.i64 (Int.ofNat (CS.getQ c (3 : Int))), AV.s (CS.getD c (3 : Int))]) [Upd.keep, Upd.keep] (Orc.c (Orc.s Orc.z Orc.z)))))))) (Orc.f
  (Orc.f (Orc.f (Orc.f (Orc.c (Orc.cal [1, 0] (AV.agg [AV.i IntKind.i64 (Int.ofNat (CS.getQ c (3 : Int))), AV.s (CS.getD c (3 : Int))]) [Upd.keep, Upd.keep] (Orc.c (Orc.s Orc.z
  Orc.z)))))))))) K = ((gd = true → gd = true ∧ True ∧ gd = true ∧ gd = true ∧ gd = true ∧ (decide ((3 : Int) = i) = true → True ∧ ((-9223372036854775808 : Int) ≤ Int.ofNat (a 3) +
  (1 : Int) ∧ Int.ofNat (a 3) + (1 : Int) ≤ (9223372036854775807 : Int)) ∧ True ∧ Con Tryd.prog 49 [AV.p 0 0, AV.i IntKind.i64 (3 : Int)] [some (CS.o c), some (SS.o s)] (AV.agg
  [AV.i IntKind.i64 (Int.ofNat (CS.getQ c (3 : Int))), AV.s (CS.getD c (3 : Int))]) [Upd.keep, Upd.keep] ∧ True ∧ ((!(decide (Int.ofNat (CS.getQ c (3 : Int)) = Int.ofNat (a 3) + (1
  : Int)) && (natsEq (CS.getD c (3 : Int)) x && true))) = true → K (Res.st XO.ret (T.n none (T.n none (T.n none (T.n none (T.n none (T.n none T.e (T.n (some (AV.p 3 6)) T.e T.e))
  T.e) (T.n none (T.n none T.e (T.n (some (AV.i IntKind.i64 (3 : Int))) T.e T.e)) (T.n none (T.n (some (AV.i IntKind.i64 (3 : Int))) T.e T.e) T.e))) (T.n none (T.n none (T.n none
  T.e (T.n (some (AV.s x)) T.e T.e)) (T.n none (T.n (some (AV.b true)) T.e T.e) T.e)) (T.n none (T.n none T.e (T.n (some (AV.agg [AV.i IntKind.i64 (Int.ofNat (a 3) + (1 : Int)),
  AV.s x])) T.e T.e)) (T.n none (T.n (some (AV.b (decide ((3 : Int) = i)))) T.e T.e) T.e)))) (T.n (some (AV.p 1 0)) (T.n (some (AV.p 3 0)) (T.n none (T.n (some (AV.i IntKind.i64
  (Int.ofNat L))) T.e (T.n (some (AV.i IntKind.i64 (Int.ofNat (a 3) + (1 : Int)))) T.e T.e)) T.e) (T.n none (T.n none T.e (T.n (some (AV.i IntKind.i64 (3 : Int))) T.e T.e)) (T.n
  none (T.n (some (AV.i IntKind.i64 i)) T.e T.e) T.e))) (T.n (some (AV.i IntKind.i64 (3 : Int))) (T.n none (T.n none T.e (T.n (some (AV.p 3 6)) T.e T.e)) (T.n none (T.n (some (AV.b
  gd)) T.e T.e) T.e)) (T.n none T.e (T.n none (T.n (some (AV.i IntKind.i64 (3 : Int))) T.e T.e) T.e))))) (T.n (some (AV.b false)) (T.n none (T.n (some (AV.p 2 0)) (T.n none (T.n
  (some (AV.sv 4 L (opF KK II XX TT))) T.e (T.n (some (AV.i IntKind.i64 (Int.ofNat (a 3)))) T.e T.e)) T.e) (T.n none (T.n none T.e (T.n (some (AV.agg [AV.i IntKind.i64 (Int.ofNat
  (CS.getQ c (3 : Int))), AV.s (CS.getD c (3 : Int))])) T.e T.e)) (T.n none (T.n (some (AV.p 2 1)) T.e T.e) T.e))) (T.n (some (AV.b gd)) (T.n none (T.n none T.e (T.n (some (AV.agg
  [AV.i IntKind.i64 (Int.ofNat (a 3) + (1 : Int)), AV.s x])) T.e T.e)) (T.n none (T.n (some (AV.i IntKind.i64 (3 : Int))) T.e T.e) T.e)) (T.n none (T.n none T.e (T.n (some (AV.b
  !(decide (Int.ofNat (CS.getQ c (3 : Int)) = Int.ofNat (a 3) + (1 : Int)) && (natsEq (CS.getD c (3 : Int)) x && true)))) T.e T.e)) (T.n none (T.n (some (AV.i IntKind.i64 (3 :
  Int))) T.e T.e) T.e)))) (T.n none (T.n none (T.n none (T.n (some (AV.i IntKind.i64 (Int.ofNat k))) T.e (T.n (some (AV.p 2 2)) T.e T.e)) (T.n none (T.n (some (AV.i IntKind.i64 (3 :
  Int))) T.e T.e) T.e)) (T.n none (T.n none T.e (T.n (some (AV.p 3 6)) T.e T.e)) (T.n none (T.n (some (AV.b (decide ((3 : Int) = i)))) T.e T.e) T.e))) (T.n none (T.n none (T.n none
  T.e (T.n (some (AV.p 1 0)) T.e T.e)) (T.n none (T.n (some (AV.b gd)) T.e T.e) T.e)) (T.n none T.e (T.n none (T.n (some (AV.p 3 6)) T.e T.e) T.e)))))) { tree := T.n (some (SS.o s)) (T.n (some (CS.oa c)) (T.n (some (AObj.cells 85 8 [AV.i IntKind.i64 (0 : Int), AV.s [], AV.i IntKind.i64 (0 : Int), AV.s [], AV.i IntKind.i64 (0 : Int), AV.s [], AV.i IntKind.i64 (0 : Int), AV.s []] (T.n (some (AV.i IntKind.i64 (Int.ofNat (a 0)))) (T.n (some (AV.s (d 0))) (T.n (some (AV.s (d 1))) (T.n (some (AV.s x)) T.e T.e) T.e) (T.n (some (AV.s (d 2))) T.e T.e)) (T.n (some (AV.i IntKind.i64 (Int.ofNat (a 1)))) (T.n (some (AV.i IntKind.i64 (Int.ofNat (a 2)))) T.e T.e) (T.n (some (AV.i IntKind.i64 (Int.ofNat (a 3) + (1 : Int)))) T.e T.e))))) T.e T.e) T.e) (T.n (some (AObj.cells 75 4 [AV.i IntKind.i64 (0 : Int), AV.i IntKind.i64 (0 : Int), AV.s [], AV.b false] (T.n (some (AV.i IntKind.i64 kk)) (T.n (some (AV.i IntKind.i64 i)) (T.n (some (AV.b tt)) T.e T.e) T.e) (T.n (some (AV.s x)) T.e T.e)))) T.e T.e), next := 4, log := [3] })
  Orc.z) ∧ ((!(decide (Int.ofNat (CS.getQ c (3 : Int)) = Int.ofNat (a 3) + (1 : Int)) && (natsEq (CS.getD c (3 : Int)) x && true))) = false → ((-9223372036854775808 : Int) ≤ (4 :
  Int) ∧ (4 : Int) ≤ (9223372036854775807 : Int)) ∧ K (Res.st XO.nrm (T.n none (T.n none (T.n none (T.n none (T.n none (T.n none T.e (T.n (some (AV.p 3 6)) T.e T.e)) T.e) (T.n none
  (T.n none T.e (T.n (some (AV.i IntKind.i64 (3 : Int))) T.e T.e)) (T.n none (T.n (some (AV.i IntKind.i64 (3 : Int))) T.e T.e) T.e))) (T.n none (T.n none (T.n none T.e (T.n (some
  (AV.s x)) T.e T.e)) (T.n none (T.n (some (AV.b true)) T.e T.e) T.e)) (T.n none (T.n none T.e (T.n (some (AV.agg [AV.i IntKind.i64 (Int.ofNat (a 3) + (1 : Int)), AV.s x])) T.e
  T.e)) (T.n none (T.n (some (AV.b (decide ((3 : Int) = i)))) T.e T.e) T.e)))) (T.n (some (AV.p 1 0)) (T.n (some (AV.p 3 0)) (T.n none (T.n (some (AV.i IntKind.i64 (Int.ofNat L)))
  T.e (T.n (some (AV.i IntKind.i64 (Int.ofNat (a 3) + (1 : Int)))) T.e T.e)) T.e) (T.n none (T.n none T.e (T.n (some (AV.i IntKind.i64 (3 : Int))) T.e T.e)) (T.n none (T.n (some
  (AV.i IntKind.i64 i)) T.e T.e) T.e))) (T.n (some (AV.i IntKind.i64 (3 : Int))) (T.n none (T.n none T.e (T.n (some (AV.p 3 6)) T.e T.e)) (T.n none (T.n (some (AV.b gd)) T.e T.e)
  T.e)) (T.n none (T.n none T.e (T.n (some (AV.i IntKind.i64 (4 : Int))) T.e T.e)) (T.n none (T.n (some (AV.i IntKind.i64 (3 : Int))) T.e T.e) T.e))))) (T.n none (T.n none (T.n
  (some (AV.p 2 0)) (T.n none (T.n (some (AV.sv 4 L (opF KK II XX TT))) T.e (T.n (some (AV.i IntKind.i64 (Int.ofNat (a 3)))) T.e T.e)) T.e) (T.n none (T.n none T.e (T.n (some
  (AV.agg [AV.i IntKind.i64 (Int.ofNat (CS.getQ c (3 : Int))), AV.s (CS.getD c (3 : Int))])) T.e T.e)) (T.n none (T.n (some (AV.p 2 1)) T.e T.e) T.e))) (T.n (some (AV.b gd)) (T.n
  none (T.n none T.e (T.n (some (AV.agg [AV.i IntKind.i64 (Int.ofNat (a 3) + (1 : Int)), AV.s x])) T.e T.e)) (T.n none (T.n (some (AV.i IntKind.i64 (3 : Int))) T.e T.e) T.e)) (T.n
  none (T.n none T.e (T.n (some (AV.b !(decide (Int.ofNat (CS.getQ c (3 : Int)) = Int.ofNat (a 3) + (1 : Int)) && (natsEq (CS.getD c (3 : Int)) x && true)))) T.e T.e)) (T.n none
  (T.n (some (AV.i IntKind.i64 (3 : Int))) T.e T.e) T.e)))) (T.n none (T.n none (T.n none (T.n (some (AV.i IntKind.i64 (Int.ofNat k))) T.e (T.n (some (AV.p 2 2)) T.e T.e)) (T.n none
  (T.n (some (AV.i IntKind.i64 (4 : Int))) T.e T.e) T.e)) (T.n none (T.n none T.e (T.n (some (AV.p 3 6)) T.e T.e)) (T.n none (T.n (some (AV.b (decide ((3 : Int) = i)))) T.e T.e)
  T.e))) (T.n none (T.n none (T.n none T.e (T.n (some (AV.p 1 0)) T.e T.e)) (T.n none (T.n (some (AV.b gd)) T.e T.e) T.e)) (T.n none T.e (T.n none (T.n (some (AV.p 3 6)) T.e T.e)
  T.e)))))) { tree := T.n (some (SS.o s)) (T.n (some (CS.oa c)) (T.n (some (AObj.cells 85 8 [AV.i IntKind.i64 (0 : Int), AV.s [], AV.i IntKind.i64 (0 : Int), AV.s [], AV.i IntKind.i64 (0 : Int), AV.s [], AV.i IntKind.i64 (0 : Int), AV.s []] (T.n (some (AV.i IntKind.i64 (Int.ofNat (a 0)))) (T.n (some (AV.s (d 0))) (T.n (some (AV.s (d 1))) (T.n (some (AV.s x)) T.e T.e) T.e) (T.n (some (AV.s (d 2))) T.e T.e)) (T.n (some (AV.i IntKind.i64 (Int.ofNat (a 1)))) (T.n (some (AV.i IntKind.i64 (Int.ofNat (a 2)))) T.e T.e) (T.n (some (AV.i IntKind.i64 (Int.ofNat (a 3) + (1 : Int)))) T.e T.e))))) T.e T.e) T.e) (T.n (some (AObj.cells 75 4 [AV.i IntKind.i64 (0 : Int), AV.i IntKind.i64 (0 : Int), AV.s [], AV.b false] (T.n (some (AV.i IntKind.i64 kk)) (T.n (some (AV.i IntKind.i64 i)) (T.n (some (AV.b tt)) T.e T.e) T.e) (T.n (some (AV.s x)) T.e T.e)))) T.e T.e), next := 4, log := [3] })
  Orc.z)) ∧ (decide ((3 : Int) = i) = false → Con Tryd.prog 49 [AV.p 0 0, AV.i IntKind.i64 (3 : Int)] [some (CS.o c), some (SS.o s)] (AV.agg [AV.i IntKind.i64 (Int.ofNat (CS.getQ c
  (3 : Int))), AV.s (CS.getD c (3 : Int))]) [Upd.keep, Upd.keep] ∧ True ∧ ((!(decide (Int.ofNat (CS.getQ c (3 : Int)) = Int.ofNat (a 3)) && (natsEq (CS.getD c (3 : Int)) (d 3) &&
  true))) = true → K (Res.st XO.ret (T.n none (T.n none (T.n none (T.n none T.e (T.n none (T.n none T.e (T.n (some (AV.i IntKind.i64 (3 : Int))) T.e T.e)) (T.n none (T.n (some (AV.i
  IntKind.i64 (3 : Int))) T.e T.e) T.e))) (T.n none (T.n none T.e (T.n none (T.n (some (AV.b true)) T.e T.e) T.e)) (T.n none (T.n none T.e (T.n (some (AV.agg [AV.i IntKind.i64
  (Int.ofNat (a 3)), AV.s (d 3)])) T.e T.e)) (T.n none (T.n (some (AV.b (decide ((3 : Int) = i)))) T.e T.e) T.e)))) (T.n (some (AV.p 1 0)) (T.n (some (AV.p 3 0)) (T.n none (T.n
  (some (AV.i IntKind.i64 (Int.ofNat L))) T.e T.e) T.e) (T.n none (T.n none T.e (T.n (some (AV.i IntKind.i64 (3 : Int))) T.e T.e)) (T.n none (T.n (some (AV.i IntKind.i64 i)) T.e
  T.e) T.e))) (T.n (some (AV.i IntKind.i64 (3 : Int))) (T.n none T.e (T.n none (T.n (some (AV.b gd)) T.e T.e) T.e)) T.e))) (T.n (some (AV.b false)) (T.n none (T.n (some (AV.p 2 0))
  (T.n none (T.n (some (AV.sv 4 L (opF KK II XX TT))) T.e T.e) T.e) (T.n none (T.n none T.e (T.n (some (AV.agg [AV.i IntKind.i64 (Int.ofNat (CS.getQ c (3 : Int))), AV.s (CS.getD c
  (3 : Int))])) T.e T.e)) (T.n none (T.n (some (AV.p 2 1)) T.e T.e) T.e))) (T.n (some (AV.b gd)) (T.n none T.e (T.n none (T.n (some (AV.i IntKind.i64 (3 : Int))) T.e T.e) T.e)) (T.n
  none (T.n none T.e (T.n (some (AV.b !(decide (Int.ofNat (CS.getQ c (3 : Int)) = Int.ofNat (a 3)) && (natsEq (CS.getD c (3 : Int)) (d 3) && true)))) T.e T.e)) T.e))) (T.n none (T.n
  none (T.n none (T.n (some (AV.i IntKind.i64 (Int.ofNat k))) T.e T.e) (T.n none (T.n (some (AV.i IntKind.i64 (3 : Int))) T.e T.e) T.e)) (T.n none (T.n none T.e (T.n (some (AV.p 3
  6)) T.e T.e)) (T.n none (T.n (some (AV.b (decide ((3 : Int) = i)))) T.e T.e) T.e))) (T.n none (T.n none (T.n none T.e (T.n (some (AV.p 1 0)) T.e T.e)) (T.n none (T.n (some (AV.b
  gd)) T.e T.e) T.e)) T.e)))) { tree := T.n (some (SS.o s)) (T.n (some (CS.oa c)) (T.n (some (AObj.cells 85 8 [AV.i IntKind.i64 (0 : Int), AV.s [], AV.i IntKind.i64 (0 : Int), AV.s [], AV.i IntKind.i64 (0 : Int), AV.s [], AV.i IntKind.i64 (0 : Int), AV.s []] (T.n (some (AV.i IntKind.i64 (Int.ofNat (a 0)))) (T.n (some (AV.s (d 0))) (T.n (some (AV.s (d 1))) (T.n (some (AV.s (d 3))) T.e T.e) T.e) (T.n (some (AV.s (d 2))) T.e T.e)) (T.n (some (AV.i IntKind.i64 (Int.ofNat (a 1)))) (T.n (some (AV.i IntKind.i64 (Int.ofNat (a 2)))) T.e T.e) (T.n (some (AV.i IntKind.i64 (Int.ofNat (a 3)))) T.e T.e))))) T.e T.e) T.e) (T.n (some (AObj.cells 75 4 [AV.i IntKind.i64 (0 : Int), AV.i IntKind.i64 (0 : Int), AV.s [], AV.b false] (T.n (some (AV.i IntKind.i64 kk)) (T.n (some (AV.i IntKind.i64 i)) (T.n (some (AV.b tt)) T.e T.e) T.e) (T.n (some (AV.s x)) T.e T.e)))) T.e T.e), next := 4, log := [] })
  Orc.z) ∧ ((!(decide (Int.ofNat (CS.getQ c (3 : Int)) = Int.ofNat (a 3)) && (natsEq (CS.getD c (3 : Int)) (d 3) && true))) = false → ((-9223372036854775808 : Int) ≤ (4 : Int) ∧ (4
  : Int) ≤ (9223372036854775807 : Int)) ∧ K (Res.st XO.nrm (T.n none (T.n none (T.n none (T.n none T.e (T.n none (T.n none T.e (T.n (some (AV.i IntKind.i64 (3 : Int))) T.e T.e))
  (T.n none (T.n (some (AV.i IntKind.i64 (3 : Int))) T.e T.e) T.e))) (T.n none (T.n none T.e (T.n none (T.n (some (AV.b true)) T.e T.e) T.e)) (T.n none (T.n none T.e (T.n (some
  (AV.agg [AV.i IntKind.i64 (Int.ofNat (a 3)), AV.s (d 3)])) T.e T.e)) (T.n none (T.n (some (AV.b (decide ((3 : Int) = i)))) T.e T.e) T.e)))) (T.n (some (AV.p 1 0)) (T.n (some (AV.p
  3 0)) (T.n none (T.n (some (AV.i IntKind.i64 (Int.ofNat L))) T.e T.e) T.e) (T.n none (T.n none T.e (T.n (some (AV.i IntKind.i64 (3 : Int))) T.e T.e)) (T.n none (T.n (some (AV.i
  IntKind.i64 i)) T.e T.e) T.e))) (T.n (some (AV.i IntKind.i64 (3 : Int))) (T.n none T.e (T.n none (T.n (some (AV.b gd)) T.e T.e) T.e)) (T.n none (T.n none T.e (T.n (some (AV.i
  IntKind.i64 (4 : Int))) T.e T.e)) T.e)))) (T.n none (T.n none (T.n (some (AV.p 2 0)) (T.n none (T.n (some (AV.sv 4 L (opF KK II XX TT))) T.e T.e) T.e) (T.n none (T.n none T.e (T.n
  (some (AV.agg [AV.i IntKind.i64 (Int.ofNat (CS.getQ c (3 : Int))), AV.s (CS.getD c (3 : Int))])) T.e T.e)) (T.n none (T.n (some (AV.p 2 1)) T.e T.e) T.e))) (T.n (some (AV.b gd))
  (T.n none T.e (T.n none (T.n (some (AV.i IntKind.i64 (3 : Int))) T.e T.e) T.e)) (T.n none (T.n none T.e (T.n (some (AV.b !(decide (Int.ofNat (CS.getQ c (3 : Int)) = Int.ofNat (a
  3)) && (natsEq (CS.getD c (3 : Int)) (d 3) && true)))) T.e T.e)) T.e))) (T.n none (T.n none (T.n none (T.n (some (AV.i IntKind.i64 (Int.ofNat k))) T.e T.e) (T.n none (T.n (some
  (AV.i IntKind.i64 (4 : Int))) T.e T.e) T.e)) (T.n none (T.n none T.e (T.n (some (AV.p 3 6)) T.e T.e)) (T.n none (T.n (some (AV.b (decide ((3 : Int) = i)))) T.e T.e) T.e))) (T.n
  none (T.n none (T.n none T.e (T.n (some (AV.p 1 0)) T.e T.e)) (T.n none (T.n (some (AV.b gd)) T.e T.e) T.e)) T.e)))) { tree := T.n (some (SS.o s)) (T.n (some (CS.oa c)) (T.n (some (AObj.cells 85 8 [AV.i IntKind.i64 (0 : Int), AV.s [], AV.i IntKind.i64 (0 : Int), AV.s [], AV.i IntKind.i64 (0 : Int), AV.s [], AV.i IntKind.i64 (0 : Int), AV.s []] (T.n (some (AV.i IntKind.i64 (Int.ofNat (a 0)))) (T.n (some (AV.s (d 0))) (T.n (some (AV.s (d 1))) (T.n (some (AV.s (d 3))) T.e T.e) T.e) (T.n (some (AV.s (d 2))) T.e T.e)) (T.n (some (AV.i IntKind.i64 (Int.ofNat (a 1)))) (T.n (some (AV.i IntKind.i64 (Int.ofNat (a 2)))) T.e T.e) (T.n (some (AV.i IntKind.i64 (Int.ofNat (a 3)))) T.e T.e))))) T.e T.e) T.e) (T.n (some (AObj.cells 75 4 [AV.i IntKind.i64 (0 : Int), AV.i IntKind.i64 (0 : Int), AV.s [], AV.b false] (T.n (some (AV.i IntKind.i64 kk)) (T.n (some (AV.i IntKind.i64 i)) (T.n (some (AV.b tt)) T.e T.e) T.e) (T.n (some (AV.s x)) T.e T.e)))) T.e T.e), next := 4, log := [] })
  Orc.z))) ∧ (gd = false → gd = false ∧ gd = false ∧ gd = false ∧ gd = false ∧ Con Tryd.prog 49 [AV.p 0 0, AV.i IntKind.i64 (3 : Int)] [some (CS.o c), some (SS.o s)] (AV.agg [AV.i
  IntKind.i64 (Int.ofNat (CS.getQ c (3 : Int))), AV.s (CS.getD c (3 : Int))]) [Upd.keep, Upd.keep] ∧ True ∧ ((!(decide (Int.ofNat (CS.getQ c (3 : Int)) = Int.ofNat (a 3)) && (natsEq
  (CS.getD c (3 : Int)) (d 3) && true))) = true → K (Res.st XO.ret (T.n none (T.n none (T.n none (T.n none T.e (T.n none (T.n none T.e (T.n (some (AV.i IntKind.i64 (3 : Int))) T.e
  T.e)) (T.n none (T.n (some (AV.tup [])) T.e T.e) T.e))) (T.n none (T.n none T.e (T.n none (T.n (some (AV.b true)) T.e T.e) T.e)) (T.n none (T.n none T.e (T.n (some (AV.agg [AV.i
  IntKind.i64 (Int.ofNat (a 3)), AV.s (d 3)])) T.e T.e)) (T.n none (T.n (some (AV.b false)) T.e T.e) T.e)))) (T.n (some (AV.p 1 0)) (T.n (some (AV.p 3 0)) (T.n none (T.n (some (AV.i
  IntKind.i64 (Int.ofNat L))) T.e T.e) T.e) (T.n none (T.n none T.e (T.n (some (AV.i IntKind.i64 (3 : Int))) T.e T.e)) (T.n none (T.n (some (AV.tup [])) T.e T.e) T.e))) (T.n (some
  (AV.i IntKind.i64 (3 : Int))) (T.n none T.e (T.n none (T.n (some (AV.b gd)) T.e T.e) T.e)) T.e))) (T.n (some (AV.b false)) (T.n none (T.n (some (AV.p 2 0)) (T.n none (T.n (some
  (AV.sv 4 L (opF KK II XX TT))) T.e T.e) T.e) (T.n none (T.n none T.e (T.n (some (AV.agg [AV.i IntKind.i64 (Int.ofNat (CS.getQ c (3 : Int))), AV.s (CS.getD c (3 : Int))])) T.e
  T.e)) (T.n none (T.n (some (AV.tup [])) T.e T.e) T.e))) (T.n (some (AV.b gd)) (T.n none T.e (T.n none (T.n (some (AV.i IntKind.i64 (3 : Int))) T.e T.e) T.e)) (T.n none (T.n none
  T.e (T.n (some (AV.b !(decide (Int.ofNat (CS.getQ c (3 : Int)) = Int.ofNat (a 3)) && (natsEq (CS.getD c (3 : Int)) (d 3) && true)))) T.e T.e)) T.e))) (T.n none (T.n none (T.n none
  (T.n (some (AV.i IntKind.i64 (Int.ofNat k))) T.e T.e) (T.n none (T.n (some (AV.i IntKind.i64 (3 : Int))) T.e T.e) T.e)) (T.n none (T.n none T.e (T.n (some (AV.p 3 6)) T.e T.e))
  (T.n none (T.n (some (AV.tup [])) T.e T.e) T.e))) (T.n none (T.n none (T.n none T.e (T.n (some (AV.p 1 0)) T.e T.e)) (T.n none (T.n (some (AV.b gd)) T.e T.e) T.e)) T.e)))) { tree := T.n (some (SS.o s)) (T.n (some (CS.oa c)) (T.n (some (AObj.cells 85 8 [AV.i IntKind.i64 (0 : Int), AV.s [], AV.i IntKind.i64 (0 : Int), AV.s [], AV.i IntKind.i64 (0 : Int), AV.s [], AV.i IntKind.i64 (0 : Int), AV.s []] (T.n (some (AV.i IntKind.i64 (Int.ofNat (a 0)))) (T.n (some (AV.s (d 0))) (T.n (some (AV.s (d 1))) (T.n (some (AV.s (d 3))) T.e T.e) T.e) (T.n (some (AV.s (d 2))) T.e T.e)) (T.n (some (AV.i IntKind.i64 (Int.ofNat (a 1)))) (T.n (some (AV.i IntKind.i64 (Int.ofNat (a 2)))) T.e T.e) (T.n (some (AV.i IntKind.i64 (Int.ofNat (a 3)))) T.e T.e))))) T.e T.e) T.e) (T.n (some (AObj.cells 75 4 [AV.i IntKind.i64 (0 : Int), AV.i IntKind.i64 (0 : Int), AV.s [], AV.b false] (T.n (some (AV.i IntKind.i64 kk)) (T.n (some (AV.i IntKind.i64 i)) (T.n (some (AV.b tt)) T.e T.e) T.e) (T.n (some (AV.s x)) T.e T.e)))) T.e T.e), next := 4, log := [] })
  Orc.z) ∧ ((!(decide (Int.ofNat (CS.getQ c (3 : Int)) = Int.ofNat (a 3)) && (natsEq (CS.getD c (3 : Int)) (d 3) && true))) = false → ((-9223372036854775808 : Int) ≤ (4 : Int) ∧ (4
  : Int) ≤ (9223372036854775807 : Int)) ∧ K (Res.st XO.nrm (T.n none (T.n none (T.n none (T.n none T.e (T.n none (T.n none T.e (T.n (some (AV.i IntKind.i64 (3 : Int))) T.e T.e))
  (T.n none (T.n (some (AV.tup [])) T.e T.e) T.e))) (T.n none (T.n none T.e (T.n none (T.n (some (AV.b true)) T.e T.e) T.e)) (T.n none (T.n none T.e (T.n (some (AV.agg [AV.i
  IntKind.i64 (Int.ofNat (a 3)), AV.s (d 3)])) T.e T.e)) (T.n none (T.n (some (AV.b false)) T.e T.e) T.e)))) (T.n (some (AV.p 1 0)) (T.n (some (AV.p 3 0)) (T.n none (T.n (some (AV.i
  IntKind.i64 (Int.ofNat L))) T.e T.e) T.e) (T.n none (T.n none T.e (T.n (some (AV.i IntKind.i64 (3 : Int))) T.e T.e)) (T.n none (T.n (some (AV.tup [])) T.e T.e) T.e))) (T.n (some
  (AV.i IntKind.i64 (3 : Int))) (T.n none T.e (T.n none (T.n (some (AV.b gd)) T.e T.e) T.e)) (T.n none (T.n none T.e (T.n (some (AV.i IntKind.i64 (4 : Int))) T.e T.e)) T.e)))) (T.n
  none (T.n none (T.n (some (AV.p 2 0)) (T.n none (T.n (some (AV.sv 4 L (opF KK II XX TT))) T.e T.e) T.e) (T.n none (T.n none T.e (T.n (some (AV.agg [AV.i IntKind.i64 (Int.ofNat
  (CS.getQ c (3 : Int))), AV.s (CS.getD c (3 : Int))])) T.e T.e)) (T.n none (T.n (some (AV.tup [])) T.e T.e) T.e))) (T.n (some (AV.b gd)) (T.n none T.e (T.n none (T.n (some (AV.i
  IntKind.i64 (3 : Int))) T.e T.e) T.e)) (T.n none (T.n none T.e (T.n (some (AV.b !(decide (Int.ofNat (CS.getQ c (3 : Int)) = Int.ofNat (a 3)) && (natsEq (CS.getD c (3 : Int)) (d 3)
  && true)))) T.e T.e)) T.e))) (T.n none (T.n none (T.n none (T.n (some (AV.i IntKind.i64 (Int.ofNat k))) T.e T.e) (T.n none (T.n (some (AV.i IntKind.i64 (4 : Int))) T.e T.e) T.e))
  (T.n none (T.n none T.e (T.n (some (AV.p 3 6)) T.e T.e)) (T.n none (T.n (some (AV.tup [])) T.e T.e) T.e))) (T.n none (T.n none (T.n none T.e (T.n (some (AV.p 1 0)) T.e T.e)) (T.n
  none (T.n (some (AV.b gd)) T.e T.e) T.e)) T.e)))) { tree := T.n (some (SS.o s)) (T.n (some (CS.oa c)) (T.n (some (AObj.cells 85 8 [AV.i IntKind.i64 (0 : Int), AV.s [], AV.i IntKind.i64 (0 : Int), AV.s [], AV.i IntKind.i64 (0 : Int), AV.s [], AV.i IntKind.i64 (0 : Int), AV.s []] (T.n (some (AV.i IntKind.i64 (Int.ofNat (a 0)))) (T.n (some (AV.s (d 0))) (T.n (some (AV.s (d 1))) (T.n (some (AV.s (d 3))) T.e T.e) T.e) (T.n (some (AV.s (d 2))) T.e T.e)) (T.n (some (AV.i IntKind.i64 (Int.ofNat (a 1)))) (T.n (some (AV.i IntKind.i64 (Int.ofNat (a 2)))) T.e T.e) (T.n (some (AV.i IntKind.i64 (Int.ofNat (a 3)))) T.e T.e))))) T.e T.e) T.e) (T.n (some (AObj.cells 75 4 [AV.i IntKind.i64 (0 : Int), AV.i IntKind.i64 (0 : Int), AV.s [], AV.b false] (T.n (some (AV.i IntKind.i64 kk)) (T.n (some (AV.i IntKind.i64 i)) (T.n (some (AV.b tt)) T.e T.e) T.e) (T.n (some (AV.s x)) T.e T.e)))) T.e T.e), next := 4, log := [] })
  Orc.z))) := by kernel_rfl

theorem grow4_vc (c : CS) (s : SS) (L k : Nat) (KK II : Nat → Int) (XX : Nat → List Nat) (TT : Nat → Bool) (a : Nat → Nat) (d : Nat → List Nat) (kk i : Int) (x : List Nat) (gd tt :
  Bool) (K : Res → Orc → Prop) : runK Tryd.prog 1000000 (.code (loopAt Tryd.prog 13 2) 125 (mkT [(5, .p 1 0), (8, .p 2 0), (9, .p 3 0), (12, .b gd), (32, .sv 4 L (opF KK II XX TT)),
  (33, .i .i64 (Int.ofNat L)), (34, .i .i64 (Int.ofNat k)), (82, .i .i64 4)]) (mkH [some s.o, some c.oa, some (opO kk i x tt), some (wasO a d)])) (Orc.c Orc.z) K = (K (Res.st
  (XO.exit 4) (T.n none (T.n none (T.n none T.e (T.n none (T.n none T.e (T.n none (T.n (some (AV.b false)) T.e T.e) T.e)) T.e)) (T.n (some (AV.p 1 0)) (T.n (some (AV.p 3 0)) (T.n
  none (T.n (some (AV.i IntKind.i64 (Int.ofNat L))) T.e T.e) T.e) T.e) T.e)) (T.n none (T.n none (T.n (some (AV.p 2 0)) (T.n none (T.n (some (AV.sv 4 L (opF KK II XX TT))) T.e T.e)
  T.e) T.e) (T.n (some (AV.b gd)) T.e T.e)) (T.n none (T.n none (T.n none (T.n (some (AV.i IntKind.i64 (Int.ofNat k))) T.e T.e) (T.n none (T.n (some (AV.i IntKind.i64 (4 : Int)))
  T.e T.e) T.e)) T.e) T.e))) { tree := T.n (some (SS.o s)) (T.n (some (CS.oa c)) (T.n (some (AObj.cells 85 8 [AV.i IntKind.i64 (0 : Int), AV.s [], AV.i IntKind.i64 (0 : Int), AV.s [], AV.i IntKind.i64 (0 : Int), AV.s [], AV.i IntKind.i64 (0 : Int), AV.s []] (T.n (some (AV.i IntKind.i64 (Int.ofNat (a 0)))) (T.n (some (AV.s (d 0))) (T.n (some (AV.s (d 1))) (T.n (some (AV.s (d 3))) T.e T.e) T.e) (T.n (some (AV.s (d 2))) T.e T.e)) (T.n (some (AV.i IntKind.i64 (Int.ofNat (a 1)))) (T.n (some (AV.i IntKind.i64 (Int.ofNat (a 2)))) T.e T.e) (T.n (some (AV.i IntKind.i64 (Int.ofNat (a 3)))) T.e T.e))))) T.e T.e) T.e) (T.n (some (AObj.cells 75 4 [AV.i IntKind.i64 (0 : Int), AV.i IntKind.i64 (0 : Int), AV.s [], AV.b false] (T.n (some (AV.i IntKind.i64 kk)) (T.n (some (AV.i IntKind.i64 i)) (T.n (some (AV.b tt)) T.e T.e) T.e) (T.n (some (AV.s x)) T.e T.e)))) T.e T.e), next := 4, log := [] })
  Orc.z) := by kernel_rfl

/-- What a cell should have behind a Put. -/
noncomputable def exQ (gd : Bool) (i : Int) (a : Nat → Nat) (k : Nat) : Nat := bif gd && decide (Int.ofNat k = i) then a k + 1 else a k
noncomputable def exD (gd : Bool) (i : Int) (x : List Nat) (d : Nat → List Nat) (k : Nat) : List Nat := bif gd && decide (Int.ofNat k = i) then x else d k
noncomputable def hitQ (a : Nat → Nat) (k : Nat) : Nat → Nat := fun j => bif Nat.beq j k then a j + 1 else a j
noncomputable def hitD (d : Nat → List Nat) (x : List Nat) (k : Nat) : Nat → List Nat := fun j => bif Nat.beq j k then x else d j

theorem neq_same (q q' : Nat) (d d' : List Nat) (hq : q = q') (hd : d = d') : (!(decide (Int.ofNat q = Int.ofNat q') && (natsEq d d' && true))) = false := by
  subst hq; subst hd; rw [natsEq_same]; simp
theorem neq_same1 (q q' : Nat) (d d' : List Nat) (hq : q = q' + 1) (hd : d = d') : (!(decide (Int.ofNat q = Int.ofNat q' + 1) && (natsEq d d' && true))) = false := by
  subst hq; subst hd; rw [natsEq_same]; simp

theorem growStep0 (c : CS) (s : SS) (L k : Nat) (KK II : Nat → Int) (XX : Nat → List Nat) (TT : Nat → Bool) (a0 a : Nat → Nat) (d0 d : Nat → List Nat) (kk i : Int) (x : List Nat) (gd tt : Bool) (hc : c.n ≤ 256)
    (hq : c.getQ 0 = exQ gd i a 0) (hd : c.getD 0 = exD gd i x d 0) (hb : a 0 < 1099511627776) (K : Res → Orc → Prop)
    (hK : ∀ (a' : Nat → Nat) (d' : Nat → List Nat) tm1 H1, (∀ j, 0 < j → a' j = a j ∧ d' j = d j) → StIs 2 [0, 1, 2, 3] [] tm1 H1 [(5, .p 1 0), (8, .p 2 0), (9, .p 3 0), (12, .b gd), (32, .sv 4 L (opF KK II XX TT)), (33, .i .i64 (Int.ofNat L)), (34, .i .i64 (Int.ofNat k)), (82, .i .i64 1)] [some s.o, some c.oa, some (opO kk i x tt), some (wasO a' d')] → ∀ o, K (.st .nrm tm1 H1) o) :
    ∃ o, runK Tryd.prog 1000000 (.code (loopAt Tryd.prog 13 2) 125 (mkT [(5, .p 1 0), (8, .p 2 0), (9, .p 3 0), (12, .b gd), (32, .sv 4 L (opF KK II XX TT)), (33, .i .i64 (Int.ofNat L)), (34, .i .i64 (Int.ofNat k)), (82, .i .i64 0)]) (mkH [some s.o, some c.oa, some (opO kk i x tt), some (wasO a d)])) o K := by
  refine ⟨_, (grow0_vc c s L k KK II XX TT a d kk i x gd tt K).mpr ⟨fun hg => ⟨hg, trivial, hg, hg, hg, fun hi => ?_, fun hi => ?_⟩, fun hg => ⟨hg, hg, hg, hg, get_con c s 0 hc, trivial, fun h => ?_, fun _ => ⟨by decide, ?_⟩⟩⟩⟩
  · have e1 : exQ gd i a 0 = a 0 + 1 := by unfold exQ; rw [hg, show decide (Int.ofNat 0 = i) = true from hi]; simp only [Bool.and_self, cond_true]
    have e2 : exD gd i x d 0 = x := by unfold exD; rw [hg, show decide (Int.ofNat 0 = i) = true from hi]; simp only [Bool.and_self, cond_true]
    rw [e1] at hq; rw [e2] at hd
    have ne := neq_same1 _ _ _ _ hq hd
    refine ⟨trivial, by simp <;> omega, trivial, get_con c s 0 hc, trivial, fun h => (by rw [ne] at h; cases h), fun _ => ⟨by decide, ?_⟩⟩
    refine hK (hitQ a 0) (hitD d x 0) _ _ (fun j hj => ?_) ?_ _
    · have hb : Nat.beq j 0 = false := by rw [Bool.eq_false_iff, ne_eq, Nat.beq_eq]; omega
      exact ⟨by show (bif Nat.beq j 0 then a j + 1 else a j) = a j; rw [hb, cond_false], by show (bif Nat.beq j 0 then x else d j) = d j; rw [hb, cond_false]⟩
    · exact st_is [0, 1, 2, 3] (by kernel_rfl) rfl rfl rfl ⟨by kernel_rfl, by kernel_rfl, by kernel_rfl, by kernel_rfl, by kernel_rfl, by kernel_rfl, by kernel_rfl, by kernel_rfl, trivial⟩ rfl
  · have e1 : exQ gd i a 0 = a 0 := by unfold exQ; rw [hg, show decide (Int.ofNat 0 = i) = false from hi]; simp only [Bool.and_false, cond_false]
    have e2 : exD gd i x d 0 = d 0 := by unfold exD; rw [hg, show decide (Int.ofNat 0 = i) = false from hi]; simp only [Bool.and_false, cond_false]
    rw [e1] at hq; rw [e2] at hd
    have ne := neq_same _ _ _ _ hq hd
    refine ⟨get_con c s 0 hc, trivial, fun h => (by rw [ne] at h; cases h), fun _ => ⟨by decide, ?_⟩⟩
    exact hK a d _ _ (fun j hj => ⟨rfl, rfl⟩) (st_is [0, 1, 2, 3] (by kernel_rfl) rfl rfl rfl ⟨by kernel_rfl, by kernel_rfl, by kernel_rfl, by kernel_rfl, by kernel_rfl, by kernel_rfl, by kernel_rfl, by kernel_rfl, trivial⟩ rfl) _
  · exfalso
    have e1 : exQ gd i a 0 = a 0 := by unfold exQ; rw [hg]; simp only [Bool.false_and, cond_false]
    have e2 : exD gd i x d 0 = d 0 := by unfold exD; rw [hg]; simp only [Bool.false_and, cond_false]
    rw [e1] at hq; rw [e2] at hd
    have ne := neq_same _ _ _ _ hq hd
    rw [ne] at h; cases h
  · exact hK a d _ _ (fun j hj => ⟨rfl, rfl⟩) (st_is [0, 1, 2, 3] (by kernel_rfl) rfl rfl rfl ⟨by kernel_rfl, by kernel_rfl, by kernel_rfl, by kernel_rfl, by kernel_rfl, by kernel_rfl, by kernel_rfl, by kernel_rfl, trivial⟩ rfl) _

theorem growStep1 (c : CS) (s : SS) (L k : Nat) (KK II : Nat → Int) (XX : Nat → List Nat) (TT : Nat → Bool) (a0 a : Nat → Nat) (d0 d : Nat → List Nat) (kk i : Int) (x : List Nat) (gd tt : Bool) (hc : c.n ≤ 256)
    (hq : c.getQ 1 = exQ gd i a 1) (hd : c.getD 1 = exD gd i x d 1) (hb : a 1 < 1099511627776) (K : Res → Orc → Prop)
    (hK : ∀ (a' : Nat → Nat) (d' : Nat → List Nat) tm1 H1, (∀ j, 1 < j → a' j = a j ∧ d' j = d j) → StIs 2 [0, 1, 2, 3] [] tm1 H1 [(5, .p 1 0), (8, .p 2 0), (9, .p 3 0), (12, .b gd), (32, .sv 4 L (opF KK II XX TT)), (33, .i .i64 (Int.ofNat L)), (34, .i .i64 (Int.ofNat k)), (82, .i .i64 2)] [some s.o, some c.oa, some (opO kk i x tt), some (wasO a' d')] → ∀ o, K (.st .nrm tm1 H1) o) :
    ∃ o, runK Tryd.prog 1000000 (.code (loopAt Tryd.prog 13 2) 125 (mkT [(5, .p 1 0), (8, .p 2 0), (9, .p 3 0), (12, .b gd), (32, .sv 4 L (opF KK II XX TT)), (33, .i .i64 (Int.ofNat L)), (34, .i .i64 (Int.ofNat k)), (82, .i .i64 1)]) (mkH [some s.o, some c.oa, some (opO kk i x tt), some (wasO a d)])) o K := by
  refine ⟨_, (grow1_vc c s L k KK II XX TT a d kk i x gd tt K).mpr ⟨fun hg => ⟨hg, trivial, hg, hg, hg, fun hi => ?_, fun hi => ?_⟩, fun hg => ⟨hg, hg, hg, hg, get_con c s 1 hc, trivial, fun h => ?_, fun _ => ⟨by decide, ?_⟩⟩⟩⟩
  · have e1 : exQ gd i a 1 = a 1 + 1 := by unfold exQ; rw [hg, show decide (Int.ofNat 1 = i) = true from hi]; simp only [Bool.and_self, cond_true]
    have e2 : exD gd i x d 1 = x := by unfold exD; rw [hg, show decide (Int.ofNat 1 = i) = true from hi]; simp only [Bool.and_self, cond_true]
    rw [e1] at hq; rw [e2] at hd
    have ne := neq_same1 _ _ _ _ hq hd
    refine ⟨trivial, by simp <;> omega, trivial, get_con c s 1 hc, trivial, fun h => (by rw [ne] at h; cases h), fun _ => ⟨by decide, ?_⟩⟩
    refine hK (hitQ a 1) (hitD d x 1) _ _ (fun j hj => ?_) ?_ _
    · have hb : Nat.beq j 1 = false := by rw [Bool.eq_false_iff, ne_eq, Nat.beq_eq]; omega
      exact ⟨by show (bif Nat.beq j 1 then a j + 1 else a j) = a j; rw [hb, cond_false], by show (bif Nat.beq j 1 then x else d j) = d j; rw [hb, cond_false]⟩
    · exact st_is [0, 1, 2, 3] (by kernel_rfl) rfl rfl rfl ⟨by kernel_rfl, by kernel_rfl, by kernel_rfl, by kernel_rfl, by kernel_rfl, by kernel_rfl, by kernel_rfl, by kernel_rfl, trivial⟩ rfl
  · have e1 : exQ gd i a 1 = a 1 := by unfold exQ; rw [hg, show decide (Int.ofNat 1 = i) = false from hi]; simp only [Bool.and_false, cond_false]
    have e2 : exD gd i x d 1 = d 1 := by unfold exD; rw [hg, show decide (Int.ofNat 1 = i) = false from hi]; simp only [Bool.and_false, cond_false]
    rw [e1] at hq; rw [e2] at hd
    have ne := neq_same _ _ _ _ hq hd
    refine ⟨get_con c s 1 hc, trivial, fun h => (by rw [ne] at h; cases h), fun _ => ⟨by decide, ?_⟩⟩
    exact hK a d _ _ (fun j hj => ⟨rfl, rfl⟩) (st_is [0, 1, 2, 3] (by kernel_rfl) rfl rfl rfl ⟨by kernel_rfl, by kernel_rfl, by kernel_rfl, by kernel_rfl, by kernel_rfl, by kernel_rfl, by kernel_rfl, by kernel_rfl, trivial⟩ rfl) _
  · exfalso
    have e1 : exQ gd i a 1 = a 1 := by unfold exQ; rw [hg]; simp only [Bool.false_and, cond_false]
    have e2 : exD gd i x d 1 = d 1 := by unfold exD; rw [hg]; simp only [Bool.false_and, cond_false]
    rw [e1] at hq; rw [e2] at hd
    have ne := neq_same _ _ _ _ hq hd
    rw [ne] at h; cases h
  · exact hK a d _ _ (fun j hj => ⟨rfl, rfl⟩) (st_is [0, 1, 2, 3] (by kernel_rfl) rfl rfl rfl ⟨by kernel_rfl, by kernel_rfl, by kernel_rfl, by kernel_rfl, by kernel_rfl, by kernel_rfl, by kernel_rfl, by kernel_rfl, trivial⟩ rfl) _

theorem growStep2 (c : CS) (s : SS) (L k : Nat) (KK II : Nat → Int) (XX : Nat → List Nat) (TT : Nat → Bool) (a0 a : Nat → Nat) (d0 d : Nat → List Nat) (kk i : Int) (x : List Nat) (gd tt : Bool) (hc : c.n ≤ 256)
    (hq : c.getQ 2 = exQ gd i a 2) (hd : c.getD 2 = exD gd i x d 2) (hb : a 2 < 1099511627776) (K : Res → Orc → Prop)
    (hK : ∀ (a' : Nat → Nat) (d' : Nat → List Nat) tm1 H1, (∀ j, 2 < j → a' j = a j ∧ d' j = d j) → StIs 2 [0, 1, 2, 3] [] tm1 H1 [(5, .p 1 0), (8, .p 2 0), (9, .p 3 0), (12, .b gd), (32, .sv 4 L (opF KK II XX TT)), (33, .i .i64 (Int.ofNat L)), (34, .i .i64 (Int.ofNat k)), (82, .i .i64 3)] [some s.o, some c.oa, some (opO kk i x tt), some (wasO a' d')] → ∀ o, K (.st .nrm tm1 H1) o) :
    ∃ o, runK Tryd.prog 1000000 (.code (loopAt Tryd.prog 13 2) 125 (mkT [(5, .p 1 0), (8, .p 2 0), (9, .p 3 0), (12, .b gd), (32, .sv 4 L (opF KK II XX TT)), (33, .i .i64 (Int.ofNat L)), (34, .i .i64 (Int.ofNat k)), (82, .i .i64 2)]) (mkH [some s.o, some c.oa, some (opO kk i x tt), some (wasO a d)])) o K := by
  refine ⟨_, (grow2_vc c s L k KK II XX TT a d kk i x gd tt K).mpr ⟨fun hg => ⟨hg, trivial, hg, hg, hg, fun hi => ?_, fun hi => ?_⟩, fun hg => ⟨hg, hg, hg, hg, get_con c s 2 hc, trivial, fun h => ?_, fun _ => ⟨by decide, ?_⟩⟩⟩⟩
  · have e1 : exQ gd i a 2 = a 2 + 1 := by unfold exQ; rw [hg, show decide (Int.ofNat 2 = i) = true from hi]; simp only [Bool.and_self, cond_true]
    have e2 : exD gd i x d 2 = x := by unfold exD; rw [hg, show decide (Int.ofNat 2 = i) = true from hi]; simp only [Bool.and_self, cond_true]
    rw [e1] at hq; rw [e2] at hd
    have ne := neq_same1 _ _ _ _ hq hd
    refine ⟨trivial, by simp <;> omega, trivial, get_con c s 2 hc, trivial, fun h => (by rw [ne] at h; cases h), fun _ => ⟨by decide, ?_⟩⟩
    refine hK (hitQ a 2) (hitD d x 2) _ _ (fun j hj => ?_) ?_ _
    · have hb : Nat.beq j 2 = false := by rw [Bool.eq_false_iff, ne_eq, Nat.beq_eq]; omega
      exact ⟨by show (bif Nat.beq j 2 then a j + 1 else a j) = a j; rw [hb, cond_false], by show (bif Nat.beq j 2 then x else d j) = d j; rw [hb, cond_false]⟩
    · exact st_is [0, 1, 2, 3] (by kernel_rfl) rfl rfl rfl ⟨by kernel_rfl, by kernel_rfl, by kernel_rfl, by kernel_rfl, by kernel_rfl, by kernel_rfl, by kernel_rfl, by kernel_rfl, trivial⟩ rfl
  · have e1 : exQ gd i a 2 = a 2 := by unfold exQ; rw [hg, show decide (Int.ofNat 2 = i) = false from hi]; simp only [Bool.and_false, cond_false]
    have e2 : exD gd i x d 2 = d 2 := by unfold exD; rw [hg, show decide (Int.ofNat 2 = i) = false from hi]; simp only [Bool.and_false, cond_false]
    rw [e1] at hq; rw [e2] at hd
    have ne := neq_same _ _ _ _ hq hd
    refine ⟨get_con c s 2 hc, trivial, fun h => (by rw [ne] at h; cases h), fun _ => ⟨by decide, ?_⟩⟩
    exact hK a d _ _ (fun j hj => ⟨rfl, rfl⟩) (st_is [0, 1, 2, 3] (by kernel_rfl) rfl rfl rfl ⟨by kernel_rfl, by kernel_rfl, by kernel_rfl, by kernel_rfl, by kernel_rfl, by kernel_rfl, by kernel_rfl, by kernel_rfl, trivial⟩ rfl) _
  · exfalso
    have e1 : exQ gd i a 2 = a 2 := by unfold exQ; rw [hg]; simp only [Bool.false_and, cond_false]
    have e2 : exD gd i x d 2 = d 2 := by unfold exD; rw [hg]; simp only [Bool.false_and, cond_false]
    rw [e1] at hq; rw [e2] at hd
    have ne := neq_same _ _ _ _ hq hd
    rw [ne] at h; cases h
  · exact hK a d _ _ (fun j hj => ⟨rfl, rfl⟩) (st_is [0, 1, 2, 3] (by kernel_rfl) rfl rfl rfl ⟨by kernel_rfl, by kernel_rfl, by kernel_rfl, by kernel_rfl, by kernel_rfl, by kernel_rfl, by kernel_rfl, by kernel_rfl, trivial⟩ rfl) _

theorem growStep3 (c : CS) (s : SS) (L k : Nat) (KK II : Nat → Int) (XX : Nat → List Nat) (TT : Nat → Bool) (a0 a : Nat → Nat) (d0 d : Nat → List Nat) (kk i : Int) (x : List Nat) (gd tt : Bool) (hc : c.n ≤ 256)
    (hq : c.getQ 3 = exQ gd i a 3) (hd : c.getD 3 = exD gd i x d 3) (hb : a 3 < 1099511627776) (K : Res → Orc → Prop)
    (hK : ∀ (a' : Nat → Nat) (d' : Nat → List Nat) tm1 H1, (∀ j, 3 < j → a' j = a j ∧ d' j = d j) → StIs 2 [0, 1, 2, 3] [] tm1 H1 [(5, .p 1 0), (8, .p 2 0), (9, .p 3 0), (12, .b gd), (32, .sv 4 L (opF KK II XX TT)), (33, .i .i64 (Int.ofNat L)), (34, .i .i64 (Int.ofNat k)), (82, .i .i64 4)] [some s.o, some c.oa, some (opO kk i x tt), some (wasO a' d')] → ∀ o, K (.st .nrm tm1 H1) o) :
    ∃ o, runK Tryd.prog 1000000 (.code (loopAt Tryd.prog 13 2) 125 (mkT [(5, .p 1 0), (8, .p 2 0), (9, .p 3 0), (12, .b gd), (32, .sv 4 L (opF KK II XX TT)), (33, .i .i64 (Int.ofNat L)), (34, .i .i64 (Int.ofNat k)), (82, .i .i64 3)]) (mkH [some s.o, some c.oa, some (opO kk i x tt), some (wasO a d)])) o K := by
  refine ⟨_, (grow3_vc c s L k KK II XX TT a d kk i x gd tt K).mpr ⟨fun hg => ⟨hg, trivial, hg, hg, hg, fun hi => ?_, fun hi => ?_⟩, fun hg => ⟨hg, hg, hg, hg, get_con c s 3 hc, trivial, fun h => ?_, fun _ => ⟨by decide, ?_⟩⟩⟩⟩
  · have e1 : exQ gd i a 3 = a 3 + 1 := by unfold exQ; rw [hg, show decide (Int.ofNat 3 = i) = true from hi]; simp only [Bool.and_self, cond_true]
    have e2 : exD gd i x d 3 = x := by unfold exD; rw [hg, show decide (Int.ofNat 3 = i) = true from hi]; simp only [Bool.and_self, cond_true]
    rw [e1] at hq; rw [e2] at hd
    have ne := neq_same1 _ _ _ _ hq hd
    refine ⟨trivial, by simp <;> omega, trivial, get_con c s 3 hc, trivial, fun h => (by rw [ne] at h; cases h), fun _ => ⟨by decide, ?_⟩⟩
    refine hK (hitQ a 3) (hitD d x 3) _ _ (fun j hj => ?_) ?_ _
    · have hb : Nat.beq j 3 = false := by rw [Bool.eq_false_iff, ne_eq, Nat.beq_eq]; omega
      exact ⟨by show (bif Nat.beq j 3 then a j + 1 else a j) = a j; rw [hb, cond_false], by show (bif Nat.beq j 3 then x else d j) = d j; rw [hb, cond_false]⟩
    · exact st_is [0, 1, 2, 3] (by kernel_rfl) rfl rfl rfl ⟨by kernel_rfl, by kernel_rfl, by kernel_rfl, by kernel_rfl, by kernel_rfl, by kernel_rfl, by kernel_rfl, by kernel_rfl, trivial⟩ rfl
  · have e1 : exQ gd i a 3 = a 3 := by unfold exQ; rw [hg, show decide (Int.ofNat 3 = i) = false from hi]; simp only [Bool.and_false, cond_false]
    have e2 : exD gd i x d 3 = d 3 := by unfold exD; rw [hg, show decide (Int.ofNat 3 = i) = false from hi]; simp only [Bool.and_false, cond_false]
    rw [e1] at hq; rw [e2] at hd
    have ne := neq_same _ _ _ _ hq hd
    refine ⟨get_con c s 3 hc, trivial, fun h => (by rw [ne] at h; cases h), fun _ => ⟨by decide, ?_⟩⟩
    exact hK a d _ _ (fun j hj => ⟨rfl, rfl⟩) (st_is [0, 1, 2, 3] (by kernel_rfl) rfl rfl rfl ⟨by kernel_rfl, by kernel_rfl, by kernel_rfl, by kernel_rfl, by kernel_rfl, by kernel_rfl, by kernel_rfl, by kernel_rfl, trivial⟩ rfl) _
  · exfalso
    have e1 : exQ gd i a 3 = a 3 := by unfold exQ; rw [hg]; simp only [Bool.false_and, cond_false]
    have e2 : exD gd i x d 3 = d 3 := by unfold exD; rw [hg]; simp only [Bool.false_and, cond_false]
    rw [e1] at hq; rw [e2] at hd
    have ne := neq_same _ _ _ _ hq hd
    rw [ne] at h; cases h
  · exact hK a d _ _ (fun j hj => ⟨rfl, rfl⟩) (st_is [0, 1, 2, 3] (by kernel_rfl) rfl rfl rfl ⟨by kernel_rfl, by kernel_rfl, by kernel_rfl, by kernel_rfl, by kernel_rfl, by kernel_rfl, by kernel_rfl, by kernel_rfl, trivial⟩ rfl) _

theorem growI_lp (c : CS) (s : SS) (L k : Nat) (KK II : Nat → Int) (XX : Nat → List Nat) (TT : Nat → Bool) (a0 : Nat → Nat) (d0 : Nat → List Nat) (kk i : Int) (x : List Nat) (gd tt : Bool) (hc : c.n ≤ 256)
    (hq : ∀ j : Nat, j < 4 → c.getQ (Int.ofNat j) = exQ gd i a0 j) (hd : ∀ j : Nat, j < 4 → c.getD (Int.ofNat j) = exD gd i x d0 j) (hb : ∀ j, a0 j < 1099511627776) :
    LDoes Tryd.prog (loopAt Tryd.prog 13 2) 125 2 (mkT [(5, .p 1 0), (8, .p 2 0), (9, .p 3 0), (12, .b gd), (32, .sv 4 L (opF KK II XX TT)), (33, .i .i64 (Int.ofNat L)), (34, .i .i64 (Int.ofNat k)), (82, .i .i64 0)]) [some s.o, some c.oa, some (opO kk i x tt), some (wasO a0 d0)] (.exit 4) (mkT [(5, .p 1 0), (32, .sv 4 L (opF KK II XX TT)), (33, .i .i64 (Int.ofNat L)), (34, .i .i64 (Int.ofNat k))]) [some s.o, some c.oa] := by
  refine loop_ind (D := Nat × (Nat → Nat) × (Nat → List Nat)) (l' := [(5, .p 1 0), (32, .sv 4 L (opF KK II XX TT)), (33, .i .i64 (Int.ofNat L)), (34, .i .i64 (Int.ofNat k))])
    (fun e => ([(5, .p 1 0), (8, .p 2 0), (9, .p 3 0), (12, .b gd), (32, .sv 4 L (opF KK II XX TT)), (33, .i .i64 (Int.ofNat L)), (34, .i .i64 (Int.ofNat k)), (82, .i .i64 (Int.ofNat e.1))], [some s.o, some c.oa, some (opO kk i x tt), some (wasO e.2.1 e.2.2)])) (fun e => 4 - e.1)
    (fun e => e.1 ≤ 4 ∧ ∀ j, e.1 ≤ j → e.2.1 j = a0 j ∧ e.2.2 j = d0 j) ?_ (0, a0, d0) ⟨by simp, fun j _ => ⟨rfl, rfl⟩⟩
  rintro ⟨e, a, d⟩ ⟨he, hj⟩
  simp only at he hj
  refine ⟨by simp, 1000000, ?_⟩
  have fq : ∀ j : Nat, e ≤ j → j < 4 → c.getQ (Int.ofNat j) = exQ gd i a j := fun j h1 h2 => by
    rw [hq j h2]; unfold exQ; rw [(hj j h1).1]
  have fd : ∀ j : Nat, e ≤ j → j < 4 → c.getD (Int.ofNat j) = exD gd i x d j := fun j h1 h2 => by
    rw [hd j h2]; unfold exD; rw [(hj j h1).2]
  have ha : ∀ j, e ≤ j → a j < 1099511627776 := fun j h => by rw [(hj j h).1]; exact hb j
  have : e = 0 ∨ e = 1 ∨ e = 2 ∨ e = 3 ∨ e = 4 := by omega
  rcases this with rfl | rfl | rfl | rfl | rfl
  · exact growStep0 c s L k KK II XX TT a a d d kk i x gd tt hc (fq 0 (by omega) (by omega)) (fd 0 (by omega) (by omega)) (ha 0 (by omega)) _ (fun a' d' tm1 H1 hs hst o => .inl ⟨(1, a', d'), [0, 1, 2, 3], [], _, _, ⟨by simp, fun j h => by
      have h1 := hs j (by simp only at h; omega)
      have h2 := hj j (by simp only at h; omega)
      exact ⟨h1.1.trans h2.1, h1.2.trans h2.2⟩⟩, by simp, rfl, hst⟩)
  · exact growStep1 c s L k KK II XX TT a a d d kk i x gd tt hc (fq 1 (by omega) (by omega)) (fd 1 (by omega) (by omega)) (ha 1 (by omega)) _ (fun a' d' tm1 H1 hs hst o => .inl ⟨(2, a', d'), [0, 1, 2, 3], [], _, _, ⟨by simp, fun j h => by
      have h1 := hs j (by simp only at h; omega)
      have h2 := hj j (by simp only at h; omega)
      exact ⟨h1.1.trans h2.1, h1.2.trans h2.2⟩⟩, by simp, rfl, hst⟩)
  · exact growStep2 c s L k KK II XX TT a a d d kk i x gd tt hc (fq 2 (by omega) (by omega)) (fd 2 (by omega) (by omega)) (ha 2 (by omega)) _ (fun a' d' tm1 H1 hs hst o => .inl ⟨(3, a', d'), [0, 1, 2, 3], [], _, _, ⟨by simp, fun j h => by
      have h1 := hs j (by simp only at h; omega)
      have h2 := hj j (by simp only at h; omega)
      exact ⟨h1.1.trans h2.1, h1.2.trans h2.2⟩⟩, by simp, rfl, hst⟩)
  · exact growStep3 c s L k KK II XX TT a a d d kk i x gd tt hc (fq 3 (by omega) (by omega)) (fd 3 (by omega) (by omega)) (ha 3 (by omega)) _ (fun a' d' tm1 H1 hs hst o => .inl ⟨(4, a', d'), [0, 1, 2, 3], [], _, _, ⟨by simp, fun j h => by
      have h1 := hs j (by simp only at h; omega)
      have h2 := hj j (by simp only at h; omega)
      exact ⟨h1.1.trans h2.1, h1.2.trans h2.2⟩⟩, by simp, rfl, hst⟩)
  · exact ⟨_, (grow4_vc c s L k KK II XX TT a d kk i x gd tt _).mpr (.inr ⟨[0, 1], [], _, _, rfl, by simp, st_is [0, 1] (by kernel_rfl) rfl rfl rfl ⟨by kernel_rfl, by kernel_rfl, by kernel_rfl, by kernel_rfl, trivial⟩ rfl⟩)⟩

end Go.Proofs.Cl
