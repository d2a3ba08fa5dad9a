/- Runs over unknown values, told by the kernel: part RmB. -/
import Derived.Test.YtafknnedagolhaaDoorRmA
set_option linter.unusedSimpArgs false
set_option linter.unusedVariables false
set_option maxRecDepth 20000
namespace Go.Proofs.Cl
open Go Go.Sim Go.Proofs Go.Proofs.Cd Go.Proofs.St Go.Proofs.YtafknnedagolhaaDoor
theorem Load_vc (c : CS) (rd : Bool) (s : SS) (b : Int) (n : Nat) (d : List Nat) (K : Res → Orc → Prop) : runK Tryd.prog 1000000 (.call 30 [.p 0 0, .i .i64 b, .agg [.i .i64 (Int.ofNat n), .s d]] (mkH [some (c.ro rd), some s.o])) (Orc.inl (Orc.inl (Orc.s (Orc.t (Orc.t (Orc.t (Orc.s (Orc.t (Orc.inl (Orc.inl (Orc.s (Orc.t (Orc.t (Orc.t (Orc.s (Orc.t (Orc.t (Orc.t (Orc.t (Orc.t (Orc.s (Orc.t (Orc.t (Orc.t (Orc.f (Orc.t (Orc.inl (Orc.c (Orc.s (Orc.c Orc.z) (Orc.s (Orc.c Orc.z) (Orc.c (Orc.cal [0, 1] (AV.agg [AV.i .i64 (Int.ofNat (bQ c b)), AV.s (bD c b)]) [Upd.keep, Upd.keep] (Orc.s Orc.z (Orc.cal [] (AV.s (btx n d)) [] (Orc.cal [0, 1] (AV.i .i64 (rE c s b (btx n d))) [Upd.set (CS.ro (rC c s b (btx n d)) (rD c s b (btx n d))), Upd.set (SS.o (rS2 c s b (btx n d)))] Orc.z)))))))))))))) (Orc.f (Orc.f (Orc.t (Orc.t (Orc.t (Orc.inl (Orc.c (Orc.s (Orc.c Orc.z) (oc 2 (Orc.cal [0, 1] (AV.agg [AV.i
  .i64 (Int.ofNat (bQ c b)), AV.s (bD c b)]) [Upd.keep, Upd.keep] (Orc.s Orc.z (Orc.cal [] (AV.s (btx n d)) [] (Orc.cal [0, 1] (AV.i .i64 (rE c s b (btx n d))) [Upd.set (CS.ro (rC c s b (btx n d)) (rD c s b (btx n d))), Upd.set (SS.o (rS2 c s b (btx n d)))] Orc.z))))))))))))))))))) (Orc.f (Orc.f (Orc.f (Orc.f (Orc.t (oc 3 (Orc.t (Orc.c (Orc.t (Orc.inl (Orc.c (Orc.s (Orc.c Orc.z) (Orc.s (Orc.c Orc.z) (Orc.c (Orc.cal [0, 1] (AV.agg [AV.i .i64 (Int.ofNat (bQ c b)), AV.s (bD c b)]) [Upd.keep, Upd.keep] (Orc.s Orc.z (Orc.cal [] (AV.s (btx n d)) [] (Orc.cal [0, 1] (AV.i .i64 (rE c s b (btx n d))) [Upd.set (CS.ro (rC c s b (btx n d)) (rD c s b (btx n d))), Upd.set (SS.o (rS2 c s b (btx n d)))] Orc.z)))))))))))))))))))))) (Orc.f (Orc.f (Orc.f (oc 5 (Orc.t (oc 3 (Orc.t (Orc.c (Orc.t (Orc.inl (Orc.c (Orc.s (Orc.c Orc.z) (Orc.s (Orc.c Orc.z) (Orc.c (Orc.cal [0, 1] (AV.agg [AV.i .i64 (Int.ofNat (bQ c
  b)), AV.s (bD c b)]) [Upd.keep, Upd.keep] (Orc.s Orc.z (Orc.cal [] (AV.s (btx n d)) [] (Orc.cal [0, 1] (AV.i .i64 (rE c s b (btx n d))) [Upd.set (CS.ro (rC c s b (btx n d)) (rD c s b (btx n d))), Upd.set (SS.o (rS2 c s b (btx n d)))] Orc.z)))))))))))))))))))))) (Orc.f (Orc.f (Orc.f (Orc.f (Orc.inl (Orc.c (Orc.s (Orc.c Orc.z) (oc 2 Orc.z)))))))))))) (Orc.f (Orc.f (Orc.f (oc 5 (Orc.inl (Orc.c (Orc.s (Orc.c Orc.z) (oc 2 Orc.z))))))))))) K = ((decide (0 ≤ b) = true → decide (0 ≤ b) = true ∧ decide (0 ≤ b) = true ∧ decide (0 ≤ b) = true ∧ (decide (b ≤ 127) = true → decide (b ≤ 127) = true ∧ True ∧ (decide (1 ≤ Int.ofNat n) = true → decide (1 ≤ Int.ofNat n) = true ∧ decide (1 ≤ Int.ofNat n) = true ∧ decide (1 ≤ Int.ofNat n) = true ∧ (decide (Int.ofNat n ≤ 1099511627776) = true → True ∧ decide (Int.ofNat n ≤ 1099511627776) = true ∧ decide (Int.ofNat n ≤ 1099511627776) = true ∧ decide
  (Int.ofNat n ≤ 1099511627776) = true ∧ decide (Int.ofNat n ≤ 1099511627776) = true ∧ decide (b ≤ 127) = true ∧ ((!decide (Int.ofNat (List.length d) ≤ 44)) = true → (!decide (Int.ofNat (List.length d) ≤ 44)) = true ∧ (!decide (Int.ofNat (List.length d) ≤ 44)) = true ∧ True ∧ decide (b ≤ 127) = true ∧ decide (Int.ofNat (List.length d) ≤ 44) = false ∧ decide (b ≤ 127) = true ∧ True ∧ True ∧ True ∧ (rd = true → K (Res.rv (AV.i .i64 13) ⟨z1 (CS.ro c rd) (z1 (SS.o s) (zl (AObj.cells 45 2 [] (z1 (AV.i .i64 (Int.ofNat n)) (zl (AV.s d)) T.e))) T.e) (zl (AObj.cells 45 2 [] (z1 (AV.i .i64 (Int.ofNat n)) (zl (AV.s d)) T.e))), 4, [3, 2]⟩) Orc.z) ∧ (rd = false → True ∧ ((!(decide (Int.ofNat n = 0) && (natsEq d [] && true))) = true → K (Res.rv (AV.i .i64 2) ⟨z1 (CS.ro c rd) (z1 (SS.o s) (zl (AObj.cells 45 2 [] (z1 (AV.i .i64 (Int.ofNat n)) (zl (AV.s d)) T.e))) T.e) (zl (AObj.cells 45 2 [] (z1 (AV.i
  .i64 (Int.ofNat n)) (zl (AV.s d)) T.e))), 4, [3, 2]⟩) Orc.z) ∧ ((!(decide (Int.ofNat n = 0) && (natsEq d [] && true))) = false → Con Tryd.prog 34 [AV.p 0 0, AV.i .i64 b] [some (CS.ro c rd), some (SS.o s)] (AV.agg [AV.i .i64 (Int.ofNat (bQ c b)), AV.s (bD c b)]) [Upd.keep, Upd.keep] ∧ True ∧ ((decide (Int.ofNat n = Int.ofNat (bQ c b)) && (natsEq d (bD c b) && true)) = true → K (Res.rv (AV.i .i64 0) ⟨z1 (CS.ro c rd) (z1 (SS.o s) (zl (AObj.cells 45 2 [] (z1 (AV.i .i64 (Int.ofNat n)) (zl (AV.s d)) T.e))) T.e) (zl (AObj.cells 45 2 [] (z1 (AV.i .i64 (Int.ofNat n)) (zl (AV.s d)) T.e))), 4, [3, 2]⟩) Orc.z) ∧ ((decide (Int.ofNat n = Int.ofNat (bQ c b)) && (natsEq d (bD c b) && true)) = false → Con Tryd.prog 60 [AV.agg [AV.i .i64 (Int.ofNat n), AV.s d]] [] (AV.s (btx n d)) [] ∧ Con Tryd.prog 59 [AV.p 0 0, AV.i .i64 b, AV.s (btx n d)] [some (CS.ro c rd), some (SS.o s)] (AV.i .i64 (rE c s b (btx n
  d))) [Upd.set (CS.ro (rC c s b (btx n d)) (rD c s b (btx n d))), Upd.set (SS.o (rS2 c s b (btx n d)))] ∧ K (Res.rv (AV.i .i64 (rE c s b (btx n d))) ⟨z1 (CS.ro (rC c s b (btx n d)) (rD c s b (btx n d))) (z1 (SS.o (rS2 c s b (btx n d))) (zl (AObj.cells 45 2 [] (z1 (AV.i .i64 (Int.ofNat n)) (zl (AV.s d)) T.e))) T.e) (zl (AObj.cells 45 2 [] (z1 (AV.i .i64 (Int.ofNat n)) (zl (AV.s d)) T.e))), 4, [1, 0, 3, 2]⟩) Orc.z)))) ∧ ((!decide (Int.ofNat (List.length d) ≤ 44)) = false → (!decide (Int.ofNat (List.length d) ≤ 44)) = false ∧ (!decide (Int.ofNat (List.length d) ≤ 44)) = false ∧ decide (b ≤ 127) = true ∧ decide (Int.ofNat (List.length d) ≤ 44) = true ∧ decide (b ≤ 127) = true ∧ True ∧ True ∧ True ∧ (rd = true → K (Res.rv (AV.i .i64 13) ⟨z1 (CS.ro c rd) (z1 (SS.o s) (zl (AObj.cells 45 2 [] (z1 (AV.i .i64 (Int.ofNat n)) (zl (AV.s d)) T.e))) T.e) (zl (AObj.cells 45 2 [] (z1 (AV.i .i64
  (Int.ofNat n)) (zl (AV.s d)) T.e))), 4, [3, 2]⟩) Orc.z) ∧ (rd = false → True ∧ Con Tryd.prog 34 [AV.p 0 0, AV.i .i64 b] [some (CS.ro c rd), some (SS.o s)] (AV.agg [AV.i .i64 (Int.ofNat (bQ c b)), AV.s (bD c b)]) [Upd.keep, Upd.keep] ∧ True ∧ ((decide (Int.ofNat n = Int.ofNat (bQ c b)) && (natsEq d (bD c b) && true)) = true → K (Res.rv (AV.i .i64 0) ⟨z1 (CS.ro c rd) (z1 (SS.o s) (zl (AObj.cells 45 2 [] (z1 (AV.i .i64 (Int.ofNat n)) (zl (AV.s d)) T.e))) T.e) (zl (AObj.cells 45 2 [] (z1 (AV.i .i64 (Int.ofNat n)) (zl (AV.s d)) T.e))), 4, [3, 2]⟩) Orc.z) ∧ ((decide (Int.ofNat n = Int.ofNat (bQ c b)) && (natsEq d (bD c b) && true)) = false → Con Tryd.prog 60 [AV.agg [AV.i .i64 (Int.ofNat n), AV.s d]] [] (AV.s (btx n d)) [] ∧ Con Tryd.prog 59 [AV.p 0 0, AV.i .i64 b, AV.s (btx n d)] [some (CS.ro c rd), some (SS.o s)] (AV.i .i64 (rE c s b (btx n d))) [Upd.set (CS.ro (rC c s b (btx n d)) (rD c s
  b (btx n d))), Upd.set (SS.o (rS2 c s b (btx n d)))] ∧ K (Res.rv (AV.i .i64 (rE c s b (btx n d))) ⟨z1 (CS.ro (rC c s b (btx n d)) (rD c s b (btx n d))) (z1 (SS.o (rS2 c s b (btx n d))) (zl (AObj.cells 45 2 [] (z1 (AV.i .i64 (Int.ofNat n)) (zl (AV.s d)) T.e))) T.e) (zl (AObj.cells 45 2 [] (z1 (AV.i .i64 (Int.ofNat n)) (zl (AV.s d)) T.e))), 4, [1, 0, 3, 2]⟩) Orc.z)))) ∧ (decide (Int.ofNat n ≤ 1099511627776) = false → decide (Int.ofNat n ≤ 1099511627776) = false ∧ decide (Int.ofNat n ≤ 1099511627776) = false ∧ decide (Int.ofNat n ≤ 1099511627776) = false ∧ decide (Int.ofNat n ≤ 1099511627776) = false ∧ decide (b ≤ 127) = true ∧ True ∧ decide (b ≤ 127) = true ∧ decide (b ≤ 127) = true ∧ True ∧ True ∧ True ∧ (rd = true → K (Res.rv (AV.i .i64 13) ⟨z1 (CS.ro c rd) (z1 (SS.o s) (zl (AObj.cells 45 2 [] (z1 (AV.i .i64 (Int.ofNat n)) (zl (AV.s d)) T.e))) T.e) (zl (AObj.cells 45 2 [] (z1 (AV.i .i64
  (Int.ofNat n)) (zl (AV.s d)) T.e))), 4, [3, 2]⟩) Orc.z) ∧ (rd = false → True ∧ ((!(decide (Int.ofNat n = 0) && (natsEq d [] && true))) = true → K (Res.rv (AV.i .i64 2) ⟨z1 (CS.ro c rd) (z1 (SS.o s) (zl (AObj.cells 45 2 [] (z1 (AV.i .i64 (Int.ofNat n)) (zl (AV.s d)) T.e))) T.e) (zl (AObj.cells 45 2 [] (z1 (AV.i .i64 (Int.ofNat n)) (zl (AV.s d)) T.e))), 4, [3, 2]⟩) Orc.z) ∧ ((!(decide (Int.ofNat n = 0) && (natsEq d [] && true))) = false → Con Tryd.prog 34 [AV.p 0 0, AV.i .i64 b] [some (CS.ro c rd), some (SS.o s)] (AV.agg [AV.i .i64 (Int.ofNat (bQ c b)), AV.s (bD c b)]) [Upd.keep, Upd.keep] ∧ True ∧ ((decide (Int.ofNat n = Int.ofNat (bQ c b)) && (natsEq d (bD c b) && true)) = true → K (Res.rv (AV.i .i64 0) ⟨z1 (CS.ro c rd) (z1 (SS.o s) (zl (AObj.cells 45 2 [] (z1 (AV.i .i64 (Int.ofNat n)) (zl (AV.s d)) T.e))) T.e) (zl (AObj.cells 45 2 [] (z1 (AV.i .i64 (Int.ofNat n)) (zl (AV.s d)) T.e))),
  4, [3, 2]⟩) Orc.z) ∧ ((decide (Int.ofNat n = Int.ofNat (bQ c b)) && (natsEq d (bD c b) && true)) = false → Con Tryd.prog 60 [AV.agg [AV.i .i64 (Int.ofNat n), AV.s d]] [] (AV.s (btx n d)) [] ∧ Con Tryd.prog 59 [AV.p 0 0, AV.i .i64 b, AV.s (btx n d)] [some (CS.ro c rd), some (SS.o s)] (AV.i .i64 (rE c s b (btx n d))) [Upd.set (CS.ro (rC c s b (btx n d)) (rD c s b (btx n d))), Upd.set (SS.o (rS2 c s b (btx n d)))] ∧ K (Res.rv (AV.i .i64 (rE c s b (btx n d))) ⟨z1 (CS.ro (rC c s b (btx n d)) (rD c s b (btx n d))) (z1 (SS.o (rS2 c s b (btx n d))) (zl (AObj.cells 45 2 [] (z1 (AV.i .i64 (Int.ofNat n)) (zl (AV.s d)) T.e))) T.e) (zl (AObj.cells 45 2 [] (z1 (AV.i .i64 (Int.ofNat n)) (zl (AV.s d)) T.e))), 4, [1, 0, 3, 2]⟩) Orc.z))))) ∧ (decide (1 ≤ Int.ofNat n) = false → decide (1 ≤ Int.ofNat n) = false ∧ decide (1 ≤ Int.ofNat n) = false ∧ decide (1 ≤ Int.ofNat n) = false ∧ decide (b ≤ 127) = true
  ∧ True ∧ decide (b ≤ 127) = true ∧ decide (b ≤ 127) = true ∧ True ∧ True ∧ True ∧ (rd = true → K (Res.rv (AV.i .i64 13) ⟨z1 (CS.ro c rd) (z1 (SS.o s) (zl (AObj.cells 45 2 [] (z1 (AV.i .i64 (Int.ofNat n)) (zl (AV.s d)) T.e))) T.e) (zl (AObj.cells 45 2 [] (z1 (AV.i .i64 (Int.ofNat n)) (zl (AV.s d)) T.e))), 4, [3, 2]⟩) Orc.z) ∧ (rd = false → True ∧ ((!(decide (Int.ofNat n = 0) && (natsEq d [] && true))) = true → K (Res.rv (AV.i .i64 2) ⟨z1 (CS.ro c rd) (z1 (SS.o s) (zl (AObj.cells 45 2 [] (z1 (AV.i .i64 (Int.ofNat n)) (zl (AV.s d)) T.e))) T.e) (zl (AObj.cells 45 2 [] (z1 (AV.i .i64 (Int.ofNat n)) (zl (AV.s d)) T.e))), 4, [3, 2]⟩) Orc.z) ∧ ((!(decide (Int.ofNat n = 0) && (natsEq d [] && true))) = false → Con Tryd.prog 34 [AV.p 0 0, AV.i .i64 b] [some (CS.ro c rd), some (SS.o s)] (AV.agg [AV.i .i64 (Int.ofNat (bQ c b)), AV.s (bD c b)]) [Upd.keep, Upd.keep] ∧ True ∧ ((decide (Int.ofNat n =
  Int.ofNat (bQ c b)) && (natsEq d (bD c b) && true)) = true → K (Res.rv (AV.i .i64 0) ⟨z1 (CS.ro c rd) (z1 (SS.o s) (zl (AObj.cells 45 2 [] (z1 (AV.i .i64 (Int.ofNat n)) (zl (AV.s d)) T.e))) T.e) (zl (AObj.cells 45 2 [] (z1 (AV.i .i64 (Int.ofNat n)) (zl (AV.s d)) T.e))), 4, [3, 2]⟩) Orc.z) ∧ ((decide (Int.ofNat n = Int.ofNat (bQ c b)) && (natsEq d (bD c b) && true)) = false → Con Tryd.prog 60 [AV.agg [AV.i .i64 (Int.ofNat n), AV.s d]] [] (AV.s (btx n d)) [] ∧ Con Tryd.prog 59 [AV.p 0 0, AV.i .i64 b, AV.s (btx n d)] [some (CS.ro c rd), some (SS.o s)] (AV.i .i64 (rE c s b (btx n d))) [Upd.set (CS.ro (rC c s b (btx n d)) (rD c s b (btx n d))), Upd.set (SS.o (rS2 c s b (btx n d)))] ∧ K (Res.rv (AV.i .i64 (rE c s b (btx n d))) ⟨z1 (CS.ro (rC c s b (btx n d)) (rD c s b (btx n d))) (z1 (SS.o (rS2 c s b (btx n d))) (zl (AObj.cells 45 2 [] (z1 (AV.i .i64 (Int.ofNat n)) (zl (AV.s d)) T.e))) T.e)
  (zl (AObj.cells 45 2 [] (z1 (AV.i .i64 (Int.ofNat n)) (zl (AV.s d)) T.e))), 4, [1, 0, 3, 2]⟩) Orc.z))))) ∧ (decide (b ≤ 127) = false → decide (b ≤ 127) = false ∧ decide (b ≤ 127) = false ∧ decide (b ≤ 127) = false ∧ decide (b ≤ 127) = false ∧ True ∧ True ∧ True ∧ (rd = true → K (Res.rv (AV.i .i64 13) ⟨z1 (CS.ro c rd) (zl (SS.o s)) (zl (AObj.cells 45 2 [] (z1 (AV.i .i64 (Int.ofNat n)) (zl (AV.s d)) T.e))), 3, [2]⟩) Orc.z) ∧ (rd = false → True ∧ K (Res.rv (AV.i .i64 2) ⟨z1 (CS.ro c rd) (zl (SS.o s)) (zl (AObj.cells 45 2 [] (z1 (AV.i .i64 (Int.ofNat n)) (zl (AV.s d)) T.e))), 3, [2]⟩) Orc.z))) ∧ (decide (0 ≤ b) = false → decide (0 ≤ b) = false ∧ decide (0 ≤ b) = false ∧ decide (0 ≤ b) = false ∧ True ∧ True ∧ True ∧ (rd = true → K (Res.rv (AV.i .i64 13) ⟨z1 (CS.ro c rd) (zl (SS.o s)) (zl (AObj.cells 45 2 [] (z1 (AV.i .i64 (Int.ofNat n)) (zl (AV.s d)) T.e))), 3, [2]⟩) Orc.z) ∧ (rd = false →
  True ∧ K (Res.rv (AV.i .i64 2) ⟨z1 (CS.ro c rd) (zl (SS.o s)) (zl (AObj.cells 45 2 [] (z1 (AV.i .i64 (Int.ofNat n)) (zl (AV.s d)) T.e))), 3, [2]⟩) Orc.z))) := by kernel_rfl
theorem LoadZ_vc (c : CS) (rd : Bool) (s : SS) (b x : Int) (d : List Nat) (h : decide (1 ≤ x) = false) (h2 : decide (x = 0) = false) (K : Res → Orc → Prop) : runK Tryd.prog 1000000 (.call 30 [.p 0 0, .i .i64 b, .agg [.i .i64 x, .s d]] (mkH [some (c.ro rd), some s.o])) (Orc.inl (Orc.inl (Orc.s (Orc.t (Orc.t (Orc.t (Orc.s (Orc.t (Orc.inl (Orc.inl (Orc.f (Orc.f (Orc.f (Orc.f (oc 5 (Orc.t (oc 3 (Orc.t (Orc.c (Orc.t (Orc.inl (Orc.c (Orc.s (Orc.c Orc.z) (Orc.s (Orc.c Orc.z) (Orc.c (Orc.cal [0, 1] (AV.agg [AV.i .i64 (Int.ofNat (bQ c b)), AV.s (bD c b)]) [Upd.keep, Upd.keep] (Orc.s Orc.z (Orc.cal [] (AV.s (btI x d)) [] (Orc.cal [0, 1] (AV.i .i64 (rE c s b (btI x d))) [Upd.set (CS.ro (rC c s b (btI x d)) (rD c s b (btI x d))), Upd.set (SS.o (rS2 c s b (btI x d)))] Orc.z)))))))))))))))))))))) (Orc.f (Orc.f (Orc.f (Orc.f (Orc.inl (Orc.c (Orc.s (Orc.c Orc.z) (oc 2 Orc.z)))))))))))) (Orc.f (Orc.f
  (Orc.f (oc 5 (Orc.inl (Orc.c (Orc.s (Orc.c Orc.z) (oc 2 Orc.z))))))))))) K = ((decide (0 ≤ b) = true → decide (0 ≤ b) = true ∧ decide (0 ≤ b) = true ∧ decide (0 ≤ b) = true ∧ (decide (b ≤ 127) = true → decide (b ≤ 127) = true ∧ True ∧ decide (1 ≤ x) = false ∧ decide (1 ≤ x) = false ∧ decide (1 ≤ x) = false ∧ decide (1 ≤ x) = false ∧ decide (b ≤ 127) = true ∧ True ∧ decide (b ≤ 127) = true ∧ decide (b ≤ 127) = true ∧ True ∧ True ∧ True ∧ (rd = true → K (Res.rv (AV.i .i64 13) ⟨z1 (CS.ro c rd) (z1 (SS.o s) (zl (AObj.cells 45 2 [] (z1 (AV.i .i64 x) (zl (AV.s d)) T.e))) T.e) (zl (AObj.cells 45 2 [] (z1 (AV.i .i64 x) (zl (AV.s d)) T.e))), 4, [3, 2]⟩) Orc.z) ∧ (rd = false → True ∧ ((!(decide (x = 0) && (natsEq d [] && true))) = true → K (Res.rv (AV.i .i64 2) ⟨z1 (CS.ro c rd) (z1 (SS.o s) (zl (AObj.cells 45 2 [] (z1 (AV.i .i64 x) (zl (AV.s d)) T.e))) T.e) (zl (AObj.cells 45 2 [] (z1 (AV.i .i64
  x) (zl (AV.s d)) T.e))), 4, [3, 2]⟩) Orc.z) ∧ ((!(decide (x = 0) && (natsEq d [] && true))) = false → Con Tryd.prog 34 [AV.p 0 0, AV.i .i64 b] [some (CS.ro c rd), some (SS.o s)] (AV.agg [AV.i .i64 (Int.ofNat (bQ c b)), AV.s (bD c b)]) [Upd.keep, Upd.keep] ∧ True ∧ ((decide (x = Int.ofNat (bQ c b)) && (natsEq d (bD c b) && true)) = true → K (Res.rv (AV.i .i64 0) ⟨z1 (CS.ro c rd) (z1 (SS.o s) (zl (AObj.cells 45 2 [] (z1 (AV.i .i64 x) (zl (AV.s d)) T.e))) T.e) (zl (AObj.cells 45 2 [] (z1 (AV.i .i64 x) (zl (AV.s d)) T.e))), 4, [3, 2]⟩) Orc.z) ∧ ((decide (x = Int.ofNat (bQ c b)) && (natsEq d (bD c b) && true)) = false → Con Tryd.prog 60 [AV.agg [AV.i .i64 x, AV.s d]] [] (AV.s (btI x d)) [] ∧ Con Tryd.prog 59 [AV.p 0 0, AV.i .i64 b, AV.s (btI x d)] [some (CS.ro c rd), some (SS.o s)] (AV.i .i64 (rE c s b (btI x d))) [Upd.set (CS.ro (rC c s b (btI x d)) (rD c s b (btI x d))), Upd.set (SS.o (rS2
  c s b (btI x d)))] ∧ K (Res.rv (AV.i .i64 (rE c s b (btI x d))) ⟨z1 (CS.ro (rC c s b (btI x d)) (rD c s b (btI x d))) (z1 (SS.o (rS2 c s b (btI x d))) (zl (AObj.cells 45 2 [] (z1 (AV.i .i64 x) (zl (AV.s d)) T.e))) T.e) (zl (AObj.cells 45 2 [] (z1 (AV.i .i64 x) (zl (AV.s d)) T.e))), 4, [1, 0, 3, 2]⟩) Orc.z)))) ∧ (decide (b ≤ 127) = false → decide (b ≤ 127) = false ∧ decide (b ≤ 127) = false ∧ decide (b ≤ 127) = false ∧ decide (b ≤ 127) = false ∧ True ∧ True ∧ True ∧ (rd = true → K (Res.rv (AV.i .i64 13) ⟨z1 (CS.ro c rd) (zl (SS.o s)) (zl (AObj.cells 45 2 [] (z1 (AV.i .i64 x) (zl (AV.s d)) T.e))), 3, [2]⟩) Orc.z) ∧ (rd = false → True ∧ K (Res.rv (AV.i .i64 2) ⟨z1 (CS.ro c rd) (zl (SS.o s)) (zl (AObj.cells 45 2 [] (z1 (AV.i .i64 x) (zl (AV.s d)) T.e))), 3, [2]⟩) Orc.z))) ∧ (decide (0 ≤ b) = false → decide (0 ≤ b) = false ∧ decide (0 ≤ b) = false ∧ decide (0 ≤ b) = false ∧ True ∧ True ∧
  True ∧ (rd = true → K (Res.rv (AV.i .i64 13) ⟨z1 (CS.ro c rd) (zl (SS.o s)) (zl (AObj.cells 45 2 [] (z1 (AV.i .i64 x) (zl (AV.s d)) T.e))), 3, [2]⟩) Orc.z) ∧ (rd = false → True ∧ K (Res.rv (AV.i .i64 2) ⟨z1 (CS.ro c rd) (zl (SS.o s)) (zl (AObj.cells 45 2 [] (z1 (AV.i .i64 x) (zl (AV.s d)) T.e))), 3, [2]⟩) Orc.z))) := by kernel_rfl
noncomputable def nxt (x : Int) (d : List Nat) : Bool := decide ((1 : Int) ≤ x) && (decide (x ≤ (1099511627776 : Int)) && decide (Int.ofNat d.length ≤ (44 : Int)))
noncomputable def mayL (b x : Int) (d : List Nat) : Bool := decide ((0 : Int) ≤ b) && (decide (b ≤ (127 : Int)) && (nxt x d || (decide (x = 0) && natsEq d [])))
noncomputable def loadW (c : CS) (rd : Bool) (b x : Int) (d : List Nat) : Int :=
  bif rd then 13 else bif mayL b x d then (bif decide (x = Int.ofNat (bQ c b)) && natsEq d (bD c b) then 0 else -1) else 2
theorem load_dead (c : CS) (s : SS) (b : Int) (n : Nat) (d : List Nat) : Con Tryd.prog 30 [.p 0 0, .i .i64 b, .agg [.i .i64 (Int.ofNat n), .s d]] [some (c.ro true), some s.o] (.i .i64 13) [.set (c.ro true), .set s.o] := by
  refine con_of_run [] [] ((Load_vc c true s b n d _).mpr ?_)
  cases h0 : decide ((0 : Int) ≤ b) with
  | false => simp only [h0, bs, Bool.and_self, Bool.and_true, Bool.true_and, Bool.false_and, Bool.and_false]; exact ⟨_, _, rfl, ret_is (by kernel_rfl) rfl (by kernel_rfl) (by kernel_rfl) rfl ⟨by kernel_rfl, by kernel_rfl, by kernel_rfl, by kernel_rfl, trivial⟩⟩
  | true =>
    cases h1 : decide (b ≤ (127 : Int)) with
    | false => simp only [h0, h1, bs, Bool.and_self, Bool.and_true, Bool.true_and, Bool.false_and, Bool.and_false]; exact ⟨_, _, rfl, ret_is (by kernel_rfl) rfl (by kernel_rfl) (by kernel_rfl) rfl ⟨by kernel_rfl, by kernel_rfl, by kernel_rfl, by kernel_rfl, trivial⟩⟩
    | true =>
      cases h2 : decide ((1 : Int) ≤ Int.ofNat n) with
      | false =>
        simp only [h0, h1, h2, bs, Bool.and_self, Bool.and_true, Bool.true_and, Bool.false_and, Bool.and_false]; exact ⟨_, _, rfl, ret_is (by kernel_rfl) rfl (by kernel_rfl) (by kernel_rfl) rfl ⟨by kernel_rfl, by kernel_rfl, by kernel_rfl, by kernel_rfl, trivial⟩⟩
      | true =>
        cases h3 : decide (Int.ofNat n ≤ (1099511627776 : Int)) with
        | false =>
          simp only [h0, h1, h2, h3, bs, Bool.and_self, Bool.and_true, Bool.true_and, Bool.false_and, Bool.and_false]; exact ⟨_, _, rfl, ret_is (by kernel_rfl) rfl (by kernel_rfl) (by kernel_rfl) rfl ⟨by kernel_rfl, by kernel_rfl, by kernel_rfl, by kernel_rfl, trivial⟩⟩
        | true =>
          cases h4 : decide (Int.ofNat d.length ≤ (44 : Int)) with
          | false =>
            simp only [h0, h1, h2, h3, h4, bs, Bool.and_self, Bool.and_true, Bool.true_and, Bool.false_and, Bool.and_false]; exact ⟨_, _, rfl, ret_is (by kernel_rfl) rfl (by kernel_rfl) (by kernel_rfl) rfl ⟨by kernel_rfl, by kernel_rfl, by kernel_rfl, by kernel_rfl, trivial⟩⟩
          | true =>
            simp only [h0, h1, h2, h3, h4, bs, Bool.and_self, Bool.and_true, Bool.true_and, Bool.false_and, Bool.and_false]; exact ⟨_, _, rfl, ret_is (by kernel_rfl) rfl (by kernel_rfl) (by kernel_rfl) rfl ⟨by kernel_rfl, by kernel_rfl, by kernel_rfl, by kernel_rfl, trivial⟩⟩
theorem load_bad (c : CS) (s : SS) (b : Int) (n : Nat) (d : List Nat) (h : mayL b (Int.ofNat n) d = false) : Con Tryd.prog 30 [.p 0 0, .i .i64 b, .agg [.i .i64 (Int.ofNat n), .s d]] [some (c.ro false), some s.o] (.i .i64 2) [.set (c.ro false), .set s.o] := by
  refine con_of_run [] [] ((Load_vc c false s b n d _).mpr ?_)
  cases h0 : decide ((0 : Int) ≤ b) with
  | false => simp only [h0, bs, Bool.and_self]; exact ⟨_, _, rfl, ret_is (by kernel_rfl) rfl (by kernel_rfl) (by kernel_rfl) rfl ⟨by kernel_rfl, by kernel_rfl, by kernel_rfl, by kernel_rfl, trivial⟩⟩
  | true =>
    cases h1 : decide (b ≤ (127 : Int)) with
    | false => simp only [h0, h1, bs, Bool.and_self]; exact ⟨_, _, rfl, ret_is (by kernel_rfl) rfl (by kernel_rfl) (by kernel_rfl) rfl ⟨by kernel_rfl, by kernel_rfl, by kernel_rfl, by kernel_rfl, trivial⟩⟩
    | true =>
      cases h2 : decide ((1 : Int) ≤ Int.ofNat n) with
      | false =>
        have z : (decide (Int.ofNat n = (0 : Int)) && (natsEq d [] && true)) = false := by
          unfold mayL nxt at h; simp only [h0, h1, h2, Bool.false_or, bs, Bool.and_self, Bool.and_true, Bool.true_and, Bool.false_and, Bool.and_false] at h; rw [Bool.and_true]; exact h
        simp only [h0, h1, h2, z, bs, Bool.and_self]; exact ⟨_, _, rfl, ret_is (by kernel_rfl) rfl (by kernel_rfl) (by kernel_rfl) rfl ⟨by kernel_rfl, by kernel_rfl, by kernel_rfl, by kernel_rfl, trivial⟩⟩
      | true =>
        cases h3 : decide (Int.ofNat n ≤ (1099511627776 : Int)) with
        | false =>
          have z : (decide (Int.ofNat n = (0 : Int)) && (natsEq d [] && true)) = false := by
            unfold mayL nxt at h; simp only [h0, h1, h2, h3, Bool.false_or, bs, Bool.and_self, Bool.and_true, Bool.true_and, Bool.false_and, Bool.and_false] at h; rw [Bool.and_true]; exact h
          simp only [h0, h1, h2, h3, z, bs, Bool.and_self]; exact ⟨_, _, rfl, ret_is (by kernel_rfl) rfl (by kernel_rfl) (by kernel_rfl) rfl ⟨by kernel_rfl, by kernel_rfl, by kernel_rfl, by kernel_rfl, trivial⟩⟩
        | true =>
          cases h4 : decide (Int.ofNat d.length ≤ (44 : Int)) with
          | false =>
            have z : (decide (Int.ofNat n = (0 : Int)) && (natsEq d [] && true)) = false := by
              unfold mayL nxt at h; simp only [h0, h1, h2, h3, h4, Bool.false_or, bs, Bool.and_self, Bool.and_true, Bool.true_and, Bool.false_and, Bool.and_false] at h; rw [Bool.and_true]; exact h
            simp only [h0, h1, h2, h3, h4, z, bs, Bool.and_self]; exact ⟨_, _, rfl, ret_is (by kernel_rfl) rfl (by kernel_rfl) (by kernel_rfl) rfl ⟨by kernel_rfl, by kernel_rfl, by kernel_rfl, by kernel_rfl, trivial⟩⟩
          | true =>
            exact absurd h (by unfold mayL nxt; simp only [h0, h1, h2, h3, h4, Bool.or_true, Bool.true_or, bs, Bool.and_self, Bool.and_true, Bool.true_and, Bool.false_and, Bool.and_false]; decide)
theorem natsEq_nil {d : List Nat} (h : natsEq d [] = true) : d = [] := by
  cases d with
  | nil => rfl
  | cons a l => exact absurd h (by show ¬ (false = true); decide)
theorem mayL_all {b : Int} {n : Nat} {d : List Nat} (h : mayL b (Int.ofNat n) d = true) :
    decide ((0 : Int) ≤ b) = true ∧ decide (b ≤ (127 : Int)) = true ∧ n ≤ 1099511627776 ∧ d.length ≤ 44 := by
  unfold mayL nxt at h
  rw [Bool.and_eq_true, Bool.and_eq_true, Bool.or_eq_true] at h
  refine ⟨h.1, h.2.1, ?_, ?_⟩
  · rcases h.2.2 with g | g
    · rw [Bool.and_eq_true, Bool.and_eq_true] at g
      have := of_decide_eq_true g.2.1; simp at this; omega
    · rw [Bool.and_eq_true] at g
      have := of_decide_eq_true g.1; simp at this; omega
  · rcases h.2.2 with g | g
    · rw [Bool.and_eq_true, Bool.and_eq_true] at g
      have := of_decide_eq_true g.2.2; simp at this; omega
    · rw [Bool.and_eq_true] at g
      rw [natsEq_nil g.2]; exact Nat.zero_le _
theorem load_good {c : CS} {s : SS} {m : Nat} (h : Inv c s m) (ht : Txt c) (hm : m < 1073741823) (b : Int) (n : Nat) (d : List Nat) (hd : ∀ x ∈ d, x < 256) (hy : mayL b (Int.ofNat n) d = true) :
    Act 30 [.p 0 0, .i .i64 b, .agg [.i .i64 (Int.ofNat n), .s d]] (loadW c false b (Int.ofNat n) d) c false s b (btx n d) := by
  have hw : loadW c false b (Int.ofNat n) d = (bif decide (Int.ofNat n = Int.ofNat (bQ c b)) && natsEq d (bD c b) then 0 else -1) := by unfold loadW; rw [hy]; rfl
  obtain ⟨h0, h1, hn, hl⟩ := mayL_all hy
  have k2 := block_con c false s b ht
  have k3 := blockText_con n d (by omega) (by omega)
  have k4 := rpd_con h hm false b _ (btx_lt (n := n) (by omega) hd)
  have eb : (decide (Int.ofNat n = Int.ofNat (bQ c b)) && (natsEq d (bD c b) && true)) = (decide (Int.ofNat n = Int.ofNat (bQ c b)) && natsEq d (bD c b)) := by rw [Bool.and_true]
  rw [hw]
  cases g1 : (decide (Int.ofNat n = Int.ofNat (bQ c b)) && natsEq d (bD c b)) with
  | true =>
    refine .no (by rfl) (con_of_run [] [] ((Load_vc c false s b n d _).mpr ?_))
    cases h2 : decide ((1 : Int) ≤ Int.ofNat n) with
    | false =>
      have z : (decide (Int.ofNat n = (0 : Int)) && (natsEq d [] && true)) = true := by
        unfold mayL nxt at hy; simp only [h0, h1, h2, Bool.false_or, Bool.true_and, Bool.false_and, Bool.and_false] at hy; rw [Bool.and_true]; exact hy
      simp only [h0, h1, h2, z, eb, g1, bs, Bool.and_self]; exact ⟨k2, _, _, rfl, ret_is (by kernel_rfl) rfl (by kernel_rfl) (by kernel_rfl) rfl ⟨by kernel_rfl, by kernel_rfl, by kernel_rfl, by kernel_rfl, trivial⟩⟩
    | true =>
      cases h3 : decide (Int.ofNat n ≤ (1099511627776 : Int)) with
      | false =>
        have z : (decide (Int.ofNat n = (0 : Int)) && (natsEq d [] && true)) = true := by
          unfold mayL nxt at hy; simp only [h0, h1, h2, h3, Bool.false_or, Bool.true_and, Bool.false_and, Bool.and_false] at hy; rw [Bool.and_true]; exact hy
        simp only [h0, h1, h2, h3, z, eb, g1, bs, Bool.and_self]; exact ⟨k2, _, _, rfl, ret_is (by kernel_rfl) rfl (by kernel_rfl) (by kernel_rfl) rfl ⟨by kernel_rfl, by kernel_rfl, by kernel_rfl, by kernel_rfl, trivial⟩⟩
      | true =>
        cases h4 : decide (Int.ofNat d.length ≤ (44 : Int)) with
        | false =>
          have z : (decide (Int.ofNat n = (0 : Int)) && (natsEq d [] && true)) = true := by
            unfold mayL nxt at hy; simp only [h0, h1, h2, h3, h4, Bool.false_or, Bool.true_and, Bool.false_and, Bool.and_false] at hy; rw [Bool.and_true]; exact hy
          simp only [h0, h1, h2, h3, h4, z, eb, g1, bs, Bool.and_self]; exact ⟨k2, _, _, rfl, ret_is (by kernel_rfl) rfl (by kernel_rfl) (by kernel_rfl) rfl ⟨by kernel_rfl, by kernel_rfl, by kernel_rfl, by kernel_rfl, trivial⟩⟩
        | true =>
          simp only [h0, h1, h2, h3, h4, eb, g1, bs, Bool.and_self]; exact ⟨k2, _, _, rfl, ret_is (by kernel_rfl) rfl (by kernel_rfl) (by kernel_rfl) rfl ⟨by kernel_rfl, by kernel_rfl, by kernel_rfl, by kernel_rfl, trivial⟩⟩
  | false =>
    refine .yes (by rfl) (con_of_run [] [] ((Load_vc c false s b n d _).mpr ?_))
    cases h2 : decide ((1 : Int) ≤ Int.ofNat n) with
    | false =>
      have z : (decide (Int.ofNat n = (0 : Int)) && (natsEq d [] && true)) = true := by
        unfold mayL nxt at hy; simp only [h0, h1, h2, Bool.false_or, Bool.true_and, Bool.false_and, Bool.and_false] at hy; rw [Bool.and_true]; exact hy
      simp only [h0, h1, h2, z, eb, g1, bs, Bool.and_self]; exact ⟨k2, k3, k4, _, _, rfl, ret_is (by kernel_rfl) rfl (by kernel_rfl) (by kernel_rfl) rfl ⟨by kernel_rfl, by kernel_rfl, by kernel_rfl, by kernel_rfl, trivial⟩⟩
    | true =>
      cases h3 : decide (Int.ofNat n ≤ (1099511627776 : Int)) with
      | false =>
        have z : (decide (Int.ofNat n = (0 : Int)) && (natsEq d [] && true)) = true := by
          unfold mayL nxt at hy; simp only [h0, h1, h2, h3, Bool.false_or, Bool.true_and, Bool.false_and, Bool.and_false] at hy; rw [Bool.and_true]; exact hy
        simp only [h0, h1, h2, h3, z, eb, g1, bs, Bool.and_self]; exact ⟨k2, k3, k4, _, _, rfl, ret_is (by kernel_rfl) rfl (by kernel_rfl) (by kernel_rfl) rfl ⟨by kernel_rfl, by kernel_rfl, by kernel_rfl, by kernel_rfl, trivial⟩⟩
      | true =>
        cases h4 : decide (Int.ofNat d.length ≤ (44 : Int)) with
        | false =>
          have z : (decide (Int.ofNat n = (0 : Int)) && (natsEq d [] && true)) = true := by
            unfold mayL nxt at hy; simp only [h0, h1, h2, h3, h4, Bool.false_or, Bool.true_and, Bool.false_and, Bool.and_false] at hy; rw [Bool.and_true]; exact hy
          simp only [h0, h1, h2, h3, h4, z, eb, g1, bs, Bool.and_self]; exact ⟨k2, k3, k4, _, _, rfl, ret_is (by kernel_rfl) rfl (by kernel_rfl) (by kernel_rfl) rfl ⟨by kernel_rfl, by kernel_rfl, by kernel_rfl, by kernel_rfl, trivial⟩⟩
        | true =>
          simp only [h0, h1, h2, h3, h4, eb, g1, bs, Bool.and_self]; exact ⟨k2, k3, k4, _, _, rfl, ret_is (by kernel_rfl) rfl (by kernel_rfl) (by kernel_rfl) rfl ⟨by kernel_rfl, by kernel_rfl, by kernel_rfl, by kernel_rfl, trivial⟩⟩
theorem load_con {c : CS} {s : SS} {m : Nat} (h : Inv c s m) (ht : Txt c) (hm : m < 1073741823) (rd : Bool) (b x : Int) (d : List Nat) (hd : ∀ x ∈ d, x < 256) :
    Act 30 [.p 0 0, .i .i64 b, .agg [.i .i64 x, .s d]] (loadW c rd b x d) c rd s b (btx x.toNat d) := by
  cases hx : decide ((0 : Int) ≤ x) with
  | false =>
    have nx : ¬ (0 : Int) ≤ x := of_decide_eq_false hx
    have hx1 : decide ((1 : Int) ≤ x) = false := decide_eq_false (by omega)
    have hx0 : decide (x = (0 : Int)) = false := decide_eq_false (by omega)
    have z : (decide (x = (0 : Int)) && (natsEq d [] && true)) = false := by rw [hx0]; rfl
    have hmay : mayL b x d = false := by unfold mayL nxt; rw [hx1, hx0]; simp only [Bool.false_and, Bool.and_false, Bool.or_self]
    cases rd with
    | true => exact .no (by unfold loadW; rfl) (con_of_run [] [] ((LoadZ_vc c true s b x d hx1 hx0 _).mpr (by cases h0 : decide ((0 : Int) ≤ b) <;> cases h1 : decide (b ≤ (127 : Int)) <;> simp only [h0, h1, hx1, z, bs, Bool.and_self] <;> exact ⟨_, _, rfl, ret_is (by kernel_rfl) rfl (by kernel_rfl) (by kernel_rfl) rfl ⟨by kernel_rfl, by kernel_rfl, by kernel_rfl, by kernel_rfl, trivial⟩⟩)))
    | false =>
      have e : loadW c false b x d = 2 := by unfold loadW; rw [hmay]; rfl
      rw [e]
      exact .no (by rfl) (con_of_run [] [] ((LoadZ_vc c false s b x d hx1 hx0 _).mpr (by cases h0 : decide ((0 : Int) ≤ b) <;> cases h1 : decide (b ≤ (127 : Int)) <;> simp only [h0, h1, hx1, z, bs, Bool.and_self] <;> exact ⟨_, _, rfl, ret_is (by kernel_rfl) rfl (by kernel_rfl) (by kernel_rfl) rfl ⟨by kernel_rfl, by kernel_rfl, by kernel_rfl, by kernel_rfl, trivial⟩⟩)))
  | true =>
    obtain ⟨n, rfl⟩ : ∃ n : Nat, x = Int.ofNat n := ⟨x.toNat, by have := of_decide_eq_true hx; simp; omega⟩
    cases rd with
    | true => exact .no (by unfold loadW; rfl) (load_dead c s b n d)
    | false =>
      cases hy : mayL b (Int.ofNat n) d with
      | true => exact load_good h ht hm b n d hd hy
      | false =>
        have e : loadW c false b (Int.ofNat n) d = 2 := by unfold loadW; rw [hy]; rfl
        rw [e]
        exact .no (by rfl) (load_bad c s b n d hy)
theorem Fence0_vc (c : CS) (rd : Bool) (s : SS) (n : Nat) (K : Res → Orc → Prop) : runK Tryd.prog 1000000 (.call 31 [.p 0 0, .i .i64 0, .i .i64 (Int.ofNat n)] (mkH [some (c.ro rd), some s.o])) (Orc.inl (Orc.inl (oc 6 (Orc.inl (Orc.inl (Orc.s (Orc.t (Orc.t (Orc.t (Orc.c (Orc.inl (Orc.c (Orc.s (Orc.c Orc.z) (Orc.s (Orc.c Orc.z) (Orc.c (Orc.inl (Orc.cal [0, 1] (AV.agg [AV.i .i64 (Int.ofNat (mV c 0)), AV.i .i64 (Int.ofNat (mV c 1)), AV.i .i64 (Int.ofNat (mV c 2)), AV.i .i64 (Int.ofNat (mV c 3)), AV.i .i64 (Int.ofNat (mV c 4))]) [Upd.keep, Upd.keep] (Orc.inl (oc 2 (Orc.s Orc.z (Orc.cal [] (AV.s (mtI (Int.ofNat (mV c 0)) (Int.ofNat (mV c 1)) (if Int.ofNat n > Int.ofNat (mV c 2) then Int.ofNat n else Int.ofNat (mV c 2)) (Int.ofNat (mV c 3)) (Int.ofNat (mV c 4)))) [] (Orc.cal [0, 1] (AV.i .i64 (rE c s 128 (mtI (Int.ofNat (mV c 0)) (Int.ofNat (mV c 1)) (if Int.ofNat n > Int.ofNat (mV c 2) then
  Int.ofNat n else Int.ofNat (mV c 2)) (Int.ofNat (mV c 3)) (Int.ofNat (mV c 4))))) [Upd.set (CS.ro (rC c s 128 (mtI (Int.ofNat (mV c 0)) (Int.ofNat (mV c 1)) (if Int.ofNat n > Int.ofNat (mV c 2) then Int.ofNat n else Int.ofNat (mV c 2)) (Int.ofNat (mV c 3)) (Int.ofNat (mV c 4)))) (rD c s 128 (mtI (Int.ofNat (mV c 0)) (Int.ofNat (mV c 1)) (if Int.ofNat n > Int.ofNat (mV c 2) then Int.ofNat n else Int.ofNat (mV c 2)) (Int.ofNat (mV c 3)) (Int.ofNat (mV c 4))))), Upd.set (SS.o (rS2 c s 128 (mtI (Int.ofNat (mV c 0)) (Int.ofNat (mV c 1)) (if Int.ofNat n > Int.ofNat (mV c 2) then Int.ofNat n else Int.ofNat (mV c 2)) (Int.ofNat (mV c 3)) (Int.ofNat (mV c 4)))))] Orc.z)))))))))))))))) (Orc.f (Orc.f (Orc.f (Orc.c (Orc.inl (Orc.c (Orc.s (Orc.c Orc.z) (oc 2 Orc.z)))))))))))))) K = ((decide (1 ≤ Int.ofNat n) = true → decide (1 ≤ Int.ofNat n) = true ∧ decide (1 ≤ Int.ofNat n) = true ∧ decide (1 ≤
  Int.ofNat n) = true ∧ True ∧ True ∧ True ∧ (rd = true → K (Res.rv (AV.i .i64 13) ⟨z1 (CS.ro c rd) (z1 (SS.o s) (zl (AObj.cells 3 1 [] (zl (AV.i .i64 (Int.ofNat n))))) T.e) (zl (AObj.cells 3 1 [] (zl (AV.i .i64 0)))), 4, [3, 2]⟩) Orc.z) ∧ (rd = false → True ∧ ((!decide (Int.ofNat n ≤ 1099511627776)) = true → K (Res.rv (AV.i .i64 2) ⟨z1 (CS.ro c rd) (z1 (SS.o s) (zl (AObj.cells 3 1 [] (zl (AV.i .i64 (Int.ofNat n))))) T.e) (zl (AObj.cells 3 1 [] (zl (AV.i .i64 0)))), 4, [3, 2]⟩) Orc.z) ∧ ((!decide (Int.ofNat n ≤ 1099511627776)) = false → Con Tryd.prog 36 [AV.p 0 0] [some (CS.ro c rd), some (SS.o s)] (AV.agg [AV.i .i64 (Int.ofNat (mV c 0)), AV.i .i64 (Int.ofNat (mV c 1)), AV.i .i64 (Int.ofNat (mV c 2)), AV.i .i64 (Int.ofNat (mV c 3)), AV.i .i64 (Int.ofNat (mV c 4))]) [Upd.keep, Upd.keep] ∧ True ∧ True ∧ True ∧ ((decide (Int.ofNat (mV c 0) = Int.ofNat (mV c 0)) && (decide (Int.ofNat (mV c 1)
  = Int.ofNat (mV c 1)) && (decide ((if Int.ofNat n > Int.ofNat (mV c 2) then Int.ofNat n else Int.ofNat (mV c 2)) = Int.ofNat (mV c 2)) && (decide (Int.ofNat (mV c 3) = Int.ofNat (mV c 3)) && (decide (Int.ofNat (mV c 4) = Int.ofNat (mV c 4)) && true)) && true))) = true → K (Res.rv (AV.i .i64 0) ⟨z1 (CS.ro c rd) (z1 (SS.o s) (zl (AObj.cells 3 1 [] (zl (AV.i .i64 (Int.ofNat n))))) (zl (AObj.cells 73 5 [AV.i .i64 0, AV.i .i64 0, AV.i .i64 0, AV.i .i64 0, AV.i .i64 0] (z1 (AV.i .i64 (Int.ofNat (mV c 0))) (z1 (AV.i .i64 (Int.ofNat (mV c 1))) (zl (AV.i .i64 (Int.ofNat (mV c 3)))) T.e) (z1 (AV.i .i64 (if Int.ofNat n > Int.ofNat (mV c 2) then Int.ofNat n else Int.ofNat (mV c 2))) (zl (AV.i .i64 (Int.ofNat (mV c 4)))) T.e))))) (z1 (AObj.cells 3 1 [] (zl (AV.i .i64 0))) (zl (AObj.cells 73 5 [AV.i .i64 0, AV.i .i64 0, AV.i .i64 0, AV.i .i64 0, AV.i .i64 0] (z1 (AV.i .i64 (Int.ofNat (mV c 0))) (z1
  (AV.i .i64 (Int.ofNat (mV c 1))) (zl (AV.i .i64 (Int.ofNat (mV c 3)))) T.e) (z1 (AV.i .i64 (Int.ofNat (mV c 2))) (zl (AV.i .i64 (Int.ofNat (mV c 4)))) T.e)))) T.e), 6, [5, 5, 5, 4, 4, 3, 2]⟩) Orc.z) ∧ ((decide (Int.ofNat (mV c 0) = Int.ofNat (mV c 0)) && (decide (Int.ofNat (mV c 1) = Int.ofNat (mV c 1)) && (decide ((if Int.ofNat n > Int.ofNat (mV c 2) then Int.ofNat n else Int.ofNat (mV c 2)) = Int.ofNat (mV c 2)) && (decide (Int.ofNat (mV c 3) = Int.ofNat (mV c 3)) && (decide (Int.ofNat (mV c 4) = Int.ofNat (mV c 4)) && true)) && true))) = false → Con Tryd.prog 80 [AV.agg [AV.i .i64 (Int.ofNat (mV c 0)), AV.i .i64 (Int.ofNat (mV c 1)), AV.i .i64 (if Int.ofNat n > Int.ofNat (mV c 2) then Int.ofNat n else Int.ofNat (mV c 2)), AV.i .i64 (Int.ofNat (mV c 3)), AV.i .i64 (Int.ofNat (mV c 4))]] [] (AV.s (mtI (Int.ofNat (mV c 0)) (Int.ofNat (mV c 1)) (if Int.ofNat n > Int.ofNat (mV c 2) then
  Int.ofNat n else Int.ofNat (mV c 2)) (Int.ofNat (mV c 3)) (Int.ofNat (mV c 4)))) [] ∧ Con Tryd.prog 59 [AV.p 0 0, AV.i .i64 128, AV.s (mtI (Int.ofNat (mV c 0)) (Int.ofNat (mV c 1)) (if Int.ofNat n > Int.ofNat (mV c 2) then Int.ofNat n else Int.ofNat (mV c 2)) (Int.ofNat (mV c 3)) (Int.ofNat (mV c 4)))] [some (CS.ro c rd), some (SS.o s)] (AV.i .i64 (rE c s 128 (mtI (Int.ofNat (mV c 0)) (Int.ofNat (mV c 1)) (if Int.ofNat n > Int.ofNat (mV c 2) then Int.ofNat n else Int.ofNat (mV c 2)) (Int.ofNat (mV c 3)) (Int.ofNat (mV c 4))))) [Upd.set (CS.ro (rC c s 128 (mtI (Int.ofNat (mV c 0)) (Int.ofNat (mV c 1)) (if Int.ofNat n > Int.ofNat (mV c 2) then Int.ofNat n else Int.ofNat (mV c 2)) (Int.ofNat (mV c 3)) (Int.ofNat (mV c 4)))) (rD c s 128 (mtI (Int.ofNat (mV c 0)) (Int.ofNat (mV c 1)) (if Int.ofNat n > Int.ofNat (mV c 2) then Int.ofNat n else Int.ofNat (mV c 2)) (Int.ofNat (mV c 3))
  (Int.ofNat (mV c 4))))), Upd.set (SS.o (rS2 c s 128 (mtI (Int.ofNat (mV c 0)) (Int.ofNat (mV c 1)) (if Int.ofNat n > Int.ofNat (mV c 2) then Int.ofNat n else Int.ofNat (mV c 2)) (Int.ofNat (mV c 3)) (Int.ofNat (mV c 4)))))] ∧ K (Res.rv (AV.i .i64 (rE c s 128 (mtI (Int.ofNat (mV c 0)) (Int.ofNat (mV c 1)) (if Int.ofNat n > Int.ofNat (mV c 2) then Int.ofNat n else Int.ofNat (mV c 2)) (Int.ofNat (mV c 3)) (Int.ofNat (mV c 4))))) ⟨z1 (CS.ro (rC c s 128 (mtI (Int.ofNat (mV c 0)) (Int.ofNat (mV c 1)) (if Int.ofNat n > Int.ofNat (mV c 2) then Int.ofNat n else Int.ofNat (mV c 2)) (Int.ofNat (mV c 3)) (Int.ofNat (mV c 4)))) (rD c s 128 (mtI (Int.ofNat (mV c 0)) (Int.ofNat (mV c 1)) (if Int.ofNat n > Int.ofNat (mV c 2) then Int.ofNat n else Int.ofNat (mV c 2)) (Int.ofNat (mV c 3)) (Int.ofNat (mV c 4))))) (z1 (SS.o (rS2 c s 128 (mtI (Int.ofNat (mV c 0)) (Int.ofNat (mV c 1)) (if Int.ofNat n >
  Int.ofNat (mV c 2) then Int.ofNat n else Int.ofNat (mV c 2)) (Int.ofNat (mV c 3)) (Int.ofNat (mV c 4))))) (zl (AObj.cells 3 1 [] (zl (AV.i .i64 (Int.ofNat n))))) (zl (AObj.cells 73 5 [AV.i .i64 0, AV.i .i64 0, AV.i .i64 0, AV.i .i64 0, AV.i .i64 0] (z1 (AV.i .i64 (Int.ofNat (mV c 0))) (z1 (AV.i .i64 (Int.ofNat (mV c 1))) (zl (AV.i .i64 (Int.ofNat (mV c 3)))) T.e) (z1 (AV.i .i64 (if Int.ofNat n > Int.ofNat (mV c 2) then Int.ofNat n else Int.ofNat (mV c 2))) (zl (AV.i .i64 (Int.ofNat (mV c 4)))) T.e))))) (z1 (AObj.cells 3 1 [] (zl (AV.i .i64 0))) (zl (AObj.cells 73 5 [AV.i .i64 0, AV.i .i64 0, AV.i .i64 0, AV.i .i64 0, AV.i .i64 0] (z1 (AV.i .i64 (Int.ofNat (mV c 0))) (z1 (AV.i .i64 (Int.ofNat (mV c 1))) (zl (AV.i .i64 (Int.ofNat (mV c 3)))) T.e) (z1 (AV.i .i64 (Int.ofNat (mV c 2))) (zl (AV.i .i64 (Int.ofNat (mV c 4)))) T.e)))) T.e), 6, [1, 0, 5, 5, 5, 4, 4, 3, 2]⟩) Orc.z)))) ∧ (decide (1
  ≤ Int.ofNat n) = false → decide (1 ≤ Int.ofNat n) = false ∧ decide (1 ≤ Int.ofNat n) = false ∧ decide (1 ≤ Int.ofNat n) = false ∧ True ∧ True ∧ True ∧ (rd = true → K (Res.rv (AV.i .i64 13) ⟨z1 (CS.ro c rd) (z1 (SS.o s) (zl (AObj.cells 3 1 [] (zl (AV.i .i64 (Int.ofNat n))))) T.e) (zl (AObj.cells 3 1 [] (zl (AV.i .i64 0)))), 4, [3, 2]⟩) Orc.z) ∧ (rd = false → True ∧ K (Res.rv (AV.i .i64 2) ⟨z1 (CS.ro c rd) (z1 (SS.o s) (zl (AObj.cells 3 1 [] (zl (AV.i .i64 (Int.ofNat n))))) T.e) (zl (AObj.cells 3 1 [] (zl (AV.i .i64 0)))), 4, [3, 2]⟩) Orc.z))) := by kernel_rfl
theorem Fence1_vc (c : CS) (rd : Bool) (s : SS) (n : Nat) (K : Res → Orc → Prop) : runK Tryd.prog 1000000 (.call 31 [.p 0 0, .i .i64 1, .i .i64 (Int.ofNat n)] (mkH [some (c.ro rd), some s.o])) (Orc.inl (Orc.inl (oc 6 (Orc.inl (Orc.inl (Orc.s (Orc.t (Orc.t (Orc.t (Orc.c (Orc.inl (Orc.c (Orc.s (Orc.c Orc.z) (Orc.s (Orc.c Orc.z) (Orc.c (Orc.inl (Orc.cal [0, 1] (AV.agg [AV.i .i64 (Int.ofNat (mV c 0)), AV.i .i64 (Int.ofNat (mV c 1)), AV.i .i64 (Int.ofNat (mV c 2)), AV.i .i64 (Int.ofNat (mV c 3)), AV.i .i64 (Int.ofNat (mV c 4))]) [Upd.keep, Upd.keep] (Orc.inl (oc 2 (Orc.s Orc.z (Orc.cal [] (AV.s (mtI (Int.ofNat (mV c 0)) (Int.ofNat (mV c 1)) (Int.ofNat (mV c 2)) (if Int.ofNat n > Int.ofNat (mV c 3) then Int.ofNat n else Int.ofNat (mV c 3)) (Int.ofNat (mV c 4)))) [] (Orc.cal [0, 1] (AV.i .i64 (rE c s 128 (mtI (Int.ofNat (mV c 0)) (Int.ofNat (mV c 1)) (Int.ofNat (mV c 2)) (if Int.ofNat n >
  Int.ofNat (mV c 3) then Int.ofNat n else Int.ofNat (mV c 3)) (Int.ofNat (mV c 4))))) [Upd.set (CS.ro (rC c s 128 (mtI (Int.ofNat (mV c 0)) (Int.ofNat (mV c 1)) (Int.ofNat (mV c 2)) (if Int.ofNat n > Int.ofNat (mV c 3) then Int.ofNat n else Int.ofNat (mV c 3)) (Int.ofNat (mV c 4)))) (rD c s 128 (mtI (Int.ofNat (mV c 0)) (Int.ofNat (mV c 1)) (Int.ofNat (mV c 2)) (if Int.ofNat n > Int.ofNat (mV c 3) then Int.ofNat n else Int.ofNat (mV c 3)) (Int.ofNat (mV c 4))))), Upd.set (SS.o (rS2 c s 128 (mtI (Int.ofNat (mV c 0)) (Int.ofNat (mV c 1)) (Int.ofNat (mV c 2)) (if Int.ofNat n > Int.ofNat (mV c 3) then Int.ofNat n else Int.ofNat (mV c 3)) (Int.ofNat (mV c 4)))))] Orc.z)))))))))))))))) (Orc.f (Orc.f (Orc.f (Orc.c (Orc.inl (Orc.c (Orc.s (Orc.c Orc.z) (oc 2 Orc.z)))))))))))))) K = ((decide (1 ≤ Int.ofNat n) = true → decide (1 ≤ Int.ofNat n) = true ∧ decide (1 ≤ Int.ofNat n) = true ∧ decide (1 ≤
  Int.ofNat n) = true ∧ True ∧ True ∧ True ∧ (rd = true → K (Res.rv (AV.i .i64 13) ⟨z1 (CS.ro c rd) (z1 (SS.o s) (zl (AObj.cells 3 1 [] (zl (AV.i .i64 (Int.ofNat n))))) T.e) (zl (AObj.cells 3 1 [] (zl (AV.i .i64 1)))), 4, [3, 2]⟩) Orc.z) ∧ (rd = false → True ∧ ((!decide (Int.ofNat n ≤ 1099511627776)) = true → K (Res.rv (AV.i .i64 2) ⟨z1 (CS.ro c rd) (z1 (SS.o s) (zl (AObj.cells 3 1 [] (zl (AV.i .i64 (Int.ofNat n))))) T.e) (zl (AObj.cells 3 1 [] (zl (AV.i .i64 1)))), 4, [3, 2]⟩) Orc.z) ∧ ((!decide (Int.ofNat n ≤ 1099511627776)) = false → Con Tryd.prog 36 [AV.p 0 0] [some (CS.ro c rd), some (SS.o s)] (AV.agg [AV.i .i64 (Int.ofNat (mV c 0)), AV.i .i64 (Int.ofNat (mV c 1)), AV.i .i64 (Int.ofNat (mV c 2)), AV.i .i64 (Int.ofNat (mV c 3)), AV.i .i64 (Int.ofNat (mV c 4))]) [Upd.keep, Upd.keep] ∧ True ∧ True ∧ True ∧ ((decide (Int.ofNat (mV c 0) = Int.ofNat (mV c 0)) && (decide (Int.ofNat (mV c 1)
  = Int.ofNat (mV c 1)) && (decide (Int.ofNat (mV c 2) = Int.ofNat (mV c 2)) && (decide ((if Int.ofNat n > Int.ofNat (mV c 3) then Int.ofNat n else Int.ofNat (mV c 3)) = Int.ofNat (mV c 3)) && (decide (Int.ofNat (mV c 4) = Int.ofNat (mV c 4)) && true)) && true))) = true → K (Res.rv (AV.i .i64 0) ⟨z1 (CS.ro c rd) (z1 (SS.o s) (zl (AObj.cells 3 1 [] (zl (AV.i .i64 (Int.ofNat n))))) (zl (AObj.cells 73 5 [AV.i .i64 0, AV.i .i64 0, AV.i .i64 0, AV.i .i64 0, AV.i .i64 0] (z1 (AV.i .i64 (Int.ofNat (mV c 0))) (z1 (AV.i .i64 (Int.ofNat (mV c 1))) (zl (AV.i .i64 (if Int.ofNat n > Int.ofNat (mV c 3) then Int.ofNat n else Int.ofNat (mV c 3)))) T.e) (z1 (AV.i .i64 (Int.ofNat (mV c 2))) (zl (AV.i .i64 (Int.ofNat (mV c 4)))) T.e))))) (z1 (AObj.cells 3 1 [] (zl (AV.i .i64 1))) (zl (AObj.cells 73 5 [AV.i .i64 0, AV.i .i64 0, AV.i .i64 0, AV.i .i64 0, AV.i .i64 0] (z1 (AV.i .i64 (Int.ofNat (mV c 0))) (z1
  (AV.i .i64 (Int.ofNat (mV c 1))) (zl (AV.i .i64 (Int.ofNat (mV c 3)))) T.e) (z1 (AV.i .i64 (Int.ofNat (mV c 2))) (zl (AV.i .i64 (Int.ofNat (mV c 4)))) T.e)))) T.e), 6, [5, 5, 5, 4, 4, 3, 2]⟩) Orc.z) ∧ ((decide (Int.ofNat (mV c 0) = Int.ofNat (mV c 0)) && (decide (Int.ofNat (mV c 1) = Int.ofNat (mV c 1)) && (decide (Int.ofNat (mV c 2) = Int.ofNat (mV c 2)) && (decide ((if Int.ofNat n > Int.ofNat (mV c 3) then Int.ofNat n else Int.ofNat (mV c 3)) = Int.ofNat (mV c 3)) && (decide (Int.ofNat (mV c 4) = Int.ofNat (mV c 4)) && true)) && true))) = false → Con Tryd.prog 80 [AV.agg [AV.i .i64 (Int.ofNat (mV c 0)), AV.i .i64 (Int.ofNat (mV c 1)), AV.i .i64 (Int.ofNat (mV c 2)), AV.i .i64 (if Int.ofNat n > Int.ofNat (mV c 3) then Int.ofNat n else Int.ofNat (mV c 3)), AV.i .i64 (Int.ofNat (mV c 4))]] [] (AV.s (mtI (Int.ofNat (mV c 0)) (Int.ofNat (mV c 1)) (Int.ofNat (mV c 2)) (if Int.ofNat n >
  Int.ofNat (mV c 3) then Int.ofNat n else Int.ofNat (mV c 3)) (Int.ofNat (mV c 4)))) [] ∧ Con Tryd.prog 59 [AV.p 0 0, AV.i .i64 128, AV.s (mtI (Int.ofNat (mV c 0)) (Int.ofNat (mV c 1)) (Int.ofNat (mV c 2)) (if Int.ofNat n > Int.ofNat (mV c 3) then Int.ofNat n else Int.ofNat (mV c 3)) (Int.ofNat (mV c 4)))] [some (CS.ro c rd), some (SS.o s)] (AV.i .i64 (rE c s 128 (mtI (Int.ofNat (mV c 0)) (Int.ofNat (mV c 1)) (Int.ofNat (mV c 2)) (if Int.ofNat n > Int.ofNat (mV c 3) then Int.ofNat n else Int.ofNat (mV c 3)) (Int.ofNat (mV c 4))))) [Upd.set (CS.ro (rC c s 128 (mtI (Int.ofNat (mV c 0)) (Int.ofNat (mV c 1)) (Int.ofNat (mV c 2)) (if Int.ofNat n > Int.ofNat (mV c 3) then Int.ofNat n else Int.ofNat (mV c 3)) (Int.ofNat (mV c 4)))) (rD c s 128 (mtI (Int.ofNat (mV c 0)) (Int.ofNat (mV c 1)) (Int.ofNat (mV c 2)) (if Int.ofNat n > Int.ofNat (mV c 3) then Int.ofNat n else Int.ofNat (mV c 3))
  (Int.ofNat (mV c 4))))), Upd.set (SS.o (rS2 c s 128 (mtI (Int.ofNat (mV c 0)) (Int.ofNat (mV c 1)) (Int.ofNat (mV c 2)) (if Int.ofNat n > Int.ofNat (mV c 3) then Int.ofNat n else Int.ofNat (mV c 3)) (Int.ofNat (mV c 4)))))] ∧ K (Res.rv (AV.i .i64 (rE c s 128 (mtI (Int.ofNat (mV c 0)) (Int.ofNat (mV c 1)) (Int.ofNat (mV c 2)) (if Int.ofNat n > Int.ofNat (mV c 3) then Int.ofNat n else Int.ofNat (mV c 3)) (Int.ofNat (mV c 4))))) ⟨z1 (CS.ro (rC c s 128 (mtI (Int.ofNat (mV c 0)) (Int.ofNat (mV c 1)) (Int.ofNat (mV c 2)) (if Int.ofNat n > Int.ofNat (mV c 3) then Int.ofNat n else Int.ofNat (mV c 3)) (Int.ofNat (mV c 4)))) (rD c s 128 (mtI (Int.ofNat (mV c 0)) (Int.ofNat (mV c 1)) (Int.ofNat (mV c 2)) (if Int.ofNat n > Int.ofNat (mV c 3) then Int.ofNat n else Int.ofNat (mV c 3)) (Int.ofNat (mV c 4))))) (z1 (SS.o (rS2 c s 128 (mtI (Int.ofNat (mV c 0)) (Int.ofNat (mV c 1)) (Int.ofNat (mV c 2))
  (if Int.ofNat n > Int.ofNat (mV c 3) then Int.ofNat n else Int.ofNat (mV c 3)) (Int.ofNat (mV c 4))))) (zl (AObj.cells 3 1 [] (zl (AV.i .i64 (Int.ofNat n))))) (zl (AObj.cells 73 5 [AV.i .i64 0, AV.i .i64 0, AV.i .i64 0, AV.i .i64 0, AV.i .i64 0] (z1 (AV.i .i64 (Int.ofNat (mV c 0))) (z1 (AV.i .i64 (Int.ofNat (mV c 1))) (zl (AV.i .i64 (if Int.ofNat n > Int.ofNat (mV c 3) then Int.ofNat n else Int.ofNat (mV c 3)))) T.e) (z1 (AV.i .i64 (Int.ofNat (mV c 2))) (zl (AV.i .i64 (Int.ofNat (mV c 4)))) T.e))))) (z1 (AObj.cells 3 1 [] (zl (AV.i .i64 1))) (zl (AObj.cells 73 5 [AV.i .i64 0, AV.i .i64 0, AV.i .i64 0, AV.i .i64 0, AV.i .i64 0] (z1 (AV.i .i64 (Int.ofNat (mV c 0))) (z1 (AV.i .i64 (Int.ofNat (mV c 1))) (zl (AV.i .i64 (Int.ofNat (mV c 3)))) T.e) (z1 (AV.i .i64 (Int.ofNat (mV c 2))) (zl (AV.i .i64 (Int.ofNat (mV c 4)))) T.e)))) T.e), 6, [1, 0, 5, 5, 5, 4, 4, 3, 2]⟩) Orc.z)))) ∧ (decide (1 ≤
  Int.ofNat n) = false → decide (1 ≤ Int.ofNat n) = false ∧ decide (1 ≤ Int.ofNat n) = false ∧ decide (1 ≤ Int.ofNat n) = false ∧ True ∧ True ∧ True ∧ (rd = true → K (Res.rv (AV.i .i64 13) ⟨z1 (CS.ro c rd) (z1 (SS.o s) (zl (AObj.cells 3 1 [] (zl (AV.i .i64 (Int.ofNat n))))) T.e) (zl (AObj.cells 3 1 [] (zl (AV.i .i64 1)))), 4, [3, 2]⟩) Orc.z) ∧ (rd = false → True ∧ K (Res.rv (AV.i .i64 2) ⟨z1 (CS.ro c rd) (z1 (SS.o s) (zl (AObj.cells 3 1 [] (zl (AV.i .i64 (Int.ofNat n))))) T.e) (zl (AObj.cells 3 1 [] (zl (AV.i .i64 1)))), 4, [3, 2]⟩) Orc.z))) := by kernel_rfl
theorem Fence2_vc (c : CS) (rd : Bool) (s : SS) (n : Nat) (K : Res → Orc → Prop) : runK Tryd.prog 1000000 (.call 31 [.p 0 0, .i .i64 2, .i .i64 (Int.ofNat n)] (mkH [some (c.ro rd), some s.o])) (Orc.inl (Orc.inl (oc 6 (Orc.inl (Orc.inl (Orc.s (Orc.t (Orc.t (Orc.t (Orc.c (Orc.inl (Orc.c (Orc.s (Orc.c Orc.z) (Orc.s (Orc.c Orc.z) (Orc.c (Orc.inl (Orc.cal [0, 1] (AV.agg [AV.i .i64 (Int.ofNat (mV c 0)), AV.i .i64 (Int.ofNat (mV c 1)), AV.i .i64 (Int.ofNat (mV c 2)), AV.i .i64 (Int.ofNat (mV c 3)), AV.i .i64 (Int.ofNat (mV c 4))]) [Upd.keep, Upd.keep] (Orc.inl (oc 2 (Orc.s Orc.z (Orc.cal [] (AV.s (mtI (Int.ofNat (mV c 0)) (Int.ofNat (mV c 1)) (Int.ofNat (mV c 2)) (Int.ofNat (mV c 3)) (if Int.ofNat n > Int.ofNat (mV c 4) then Int.ofNat n else Int.ofNat (mV c 4)))) [] (Orc.cal [0, 1] (AV.i .i64 (rE c s 128 (mtI (Int.ofNat (mV c 0)) (Int.ofNat (mV c 1)) (Int.ofNat (mV c 2)) (Int.ofNat (mV c 3))
  (if Int.ofNat n > Int.ofNat (mV c 4) then Int.ofNat n else Int.ofNat (mV c 4))))) [Upd.set (CS.ro (rC c s 128 (mtI (Int.ofNat (mV c 0)) (Int.ofNat (mV c 1)) (Int.ofNat (mV c 2)) (Int.ofNat (mV c 3)) (if Int.ofNat n > Int.ofNat (mV c 4) then Int.ofNat n else Int.ofNat (mV c 4)))) (rD c s 128 (mtI (Int.ofNat (mV c 0)) (Int.ofNat (mV c 1)) (Int.ofNat (mV c 2)) (Int.ofNat (mV c 3)) (if Int.ofNat n > Int.ofNat (mV c 4) then Int.ofNat n else Int.ofNat (mV c 4))))), Upd.set (SS.o (rS2 c s 128 (mtI (Int.ofNat (mV c 0)) (Int.ofNat (mV c 1)) (Int.ofNat (mV c 2)) (Int.ofNat (mV c 3)) (if Int.ofNat n > Int.ofNat (mV c 4) then Int.ofNat n else Int.ofNat (mV c 4)))))] Orc.z)))))))))))))))) (Orc.f (Orc.f (Orc.f (Orc.c (Orc.inl (Orc.c (Orc.s (Orc.c Orc.z) (oc 2 Orc.z)))))))))))))) K = ((decide (1 ≤ Int.ofNat n) = true → decide (1 ≤ Int.ofNat n) = true ∧ decide (1 ≤ Int.ofNat n) = true ∧ decide (1 ≤
  Int.ofNat n) = true ∧ True ∧ True ∧ True ∧ (rd = true → K (Res.rv (AV.i .i64 13) ⟨z1 (CS.ro c rd) (z1 (SS.o s) (zl (AObj.cells 3 1 [] (zl (AV.i .i64 (Int.ofNat n))))) T.e) (zl (AObj.cells 3 1 [] (zl (AV.i .i64 2)))), 4, [3, 2]⟩) Orc.z) ∧ (rd = false → True ∧ ((!decide (Int.ofNat n ≤ 1099511627776)) = true → K (Res.rv (AV.i .i64 2) ⟨z1 (CS.ro c rd) (z1 (SS.o s) (zl (AObj.cells 3 1 [] (zl (AV.i .i64 (Int.ofNat n))))) T.e) (zl (AObj.cells 3 1 [] (zl (AV.i .i64 2)))), 4, [3, 2]⟩) Orc.z) ∧ ((!decide (Int.ofNat n ≤ 1099511627776)) = false → Con Tryd.prog 36 [AV.p 0 0] [some (CS.ro c rd), some (SS.o s)] (AV.agg [AV.i .i64 (Int.ofNat (mV c 0)), AV.i .i64 (Int.ofNat (mV c 1)), AV.i .i64 (Int.ofNat (mV c 2)), AV.i .i64 (Int.ofNat (mV c 3)), AV.i .i64 (Int.ofNat (mV c 4))]) [Upd.keep, Upd.keep] ∧ True ∧ True ∧ True ∧ ((decide (Int.ofNat (mV c 0) = Int.ofNat (mV c 0)) && (decide (Int.ofNat (mV c 1)
  = Int.ofNat (mV c 1)) && (decide (Int.ofNat (mV c 2) = Int.ofNat (mV c 2)) && (decide (Int.ofNat (mV c 3) = Int.ofNat (mV c 3)) && (decide ((if Int.ofNat n > Int.ofNat (mV c 4) then Int.ofNat n else Int.ofNat (mV c 4)) = Int.ofNat (mV c 4)) && true)) && true))) = true → K (Res.rv (AV.i .i64 0) ⟨z1 (CS.ro c rd) (z1 (SS.o s) (zl (AObj.cells 3 1 [] (zl (AV.i .i64 (Int.ofNat n))))) (zl (AObj.cells 73 5 [AV.i .i64 0, AV.i .i64 0, AV.i .i64 0, AV.i .i64 0, AV.i .i64 0] (z1 (AV.i .i64 (Int.ofNat (mV c 0))) (z1 (AV.i .i64 (Int.ofNat (mV c 1))) (zl (AV.i .i64 (Int.ofNat (mV c 3)))) T.e) (z1 (AV.i .i64 (Int.ofNat (mV c 2))) (zl (AV.i .i64 (if Int.ofNat n > Int.ofNat (mV c 4) then Int.ofNat n else Int.ofNat (mV c 4)))) T.e))))) (z1 (AObj.cells 3 1 [] (zl (AV.i .i64 2))) (zl (AObj.cells 73 5 [AV.i .i64 0, AV.i .i64 0, AV.i .i64 0, AV.i .i64 0, AV.i .i64 0] (z1 (AV.i .i64 (Int.ofNat (mV c 0))) (z1
  (AV.i .i64 (Int.ofNat (mV c 1))) (zl (AV.i .i64 (Int.ofNat (mV c 3)))) T.e) (z1 (AV.i .i64 (Int.ofNat (mV c 2))) (zl (AV.i .i64 (Int.ofNat (mV c 4)))) T.e)))) T.e), 6, [5, 5, 5, 4, 4, 3, 2]⟩) Orc.z) ∧ ((decide (Int.ofNat (mV c 0) = Int.ofNat (mV c 0)) && (decide (Int.ofNat (mV c 1) = Int.ofNat (mV c 1)) && (decide (Int.ofNat (mV c 2) = Int.ofNat (mV c 2)) && (decide (Int.ofNat (mV c 3) = Int.ofNat (mV c 3)) && (decide ((if Int.ofNat n > Int.ofNat (mV c 4) then Int.ofNat n else Int.ofNat (mV c 4)) = Int.ofNat (mV c 4)) && true)) && true))) = false → Con Tryd.prog 80 [AV.agg [AV.i .i64 (Int.ofNat (mV c 0)), AV.i .i64 (Int.ofNat (mV c 1)), AV.i .i64 (Int.ofNat (mV c 2)), AV.i .i64 (Int.ofNat (mV c 3)), AV.i .i64 (if Int.ofNat n > Int.ofNat (mV c 4) then Int.ofNat n else Int.ofNat (mV c 4))]] [] (AV.s (mtI (Int.ofNat (mV c 0)) (Int.ofNat (mV c 1)) (Int.ofNat (mV c 2)) (Int.ofNat (mV c 3))
  (if Int.ofNat n > Int.ofNat (mV c 4) then Int.ofNat n else Int.ofNat (mV c 4)))) [] ∧ Con Tryd.prog 59 [AV.p 0 0, AV.i .i64 128, AV.s (mtI (Int.ofNat (mV c 0)) (Int.ofNat (mV c 1)) (Int.ofNat (mV c 2)) (Int.ofNat (mV c 3)) (if Int.ofNat n > Int.ofNat (mV c 4) then Int.ofNat n else Int.ofNat (mV c 4)))] [some (CS.ro c rd), some (SS.o s)] (AV.i .i64 (rE c s 128 (mtI (Int.ofNat (mV c 0)) (Int.ofNat (mV c 1)) (Int.ofNat (mV c 2)) (Int.ofNat (mV c 3)) (if Int.ofNat n > Int.ofNat (mV c 4) then Int.ofNat n else Int.ofNat (mV c 4))))) [Upd.set (CS.ro (rC c s 128 (mtI (Int.ofNat (mV c 0)) (Int.ofNat (mV c 1)) (Int.ofNat (mV c 2)) (Int.ofNat (mV c 3)) (if Int.ofNat n > Int.ofNat (mV c 4) then Int.ofNat n else Int.ofNat (mV c 4)))) (rD c s 128 (mtI (Int.ofNat (mV c 0)) (Int.ofNat (mV c 1)) (Int.ofNat (mV c 2)) (Int.ofNat (mV c 3)) (if Int.ofNat n > Int.ofNat (mV c 4) then Int.ofNat n else
  Int.ofNat (mV c 4))))), Upd.set (SS.o (rS2 c s 128 (mtI (Int.ofNat (mV c 0)) (Int.ofNat (mV c 1)) (Int.ofNat (mV c 2)) (Int.ofNat (mV c 3)) (if Int.ofNat n > Int.ofNat (mV c 4) then Int.ofNat n else Int.ofNat (mV c 4)))))] ∧ K (Res.rv (AV.i .i64 (rE c s 128 (mtI (Int.ofNat (mV c 0)) (Int.ofNat (mV c 1)) (Int.ofNat (mV c 2)) (Int.ofNat (mV c 3)) (if Int.ofNat n > Int.ofNat (mV c 4) then Int.ofNat n else Int.ofNat (mV c 4))))) ⟨z1 (CS.ro (rC c s 128 (mtI (Int.ofNat (mV c 0)) (Int.ofNat (mV c 1)) (Int.ofNat (mV c 2)) (Int.ofNat (mV c 3)) (if Int.ofNat n > Int.ofNat (mV c 4) then Int.ofNat n else Int.ofNat (mV c 4)))) (rD c s 128 (mtI (Int.ofNat (mV c 0)) (Int.ofNat (mV c 1)) (Int.ofNat (mV c 2)) (Int.ofNat (mV c 3)) (if Int.ofNat n > Int.ofNat (mV c 4) then Int.ofNat n else Int.ofNat (mV c 4))))) (z1 (SS.o (rS2 c s 128 (mtI (Int.ofNat (mV c 0)) (Int.ofNat (mV c 1)) (Int.ofNat (mV c 2))
  (Int.ofNat (mV c 3)) (if Int.ofNat n > Int.ofNat (mV c 4) then Int.ofNat n else Int.ofNat (mV c 4))))) (zl (AObj.cells 3 1 [] (zl (AV.i .i64 (Int.ofNat n))))) (zl (AObj.cells 73 5 [AV.i .i64 0, AV.i .i64 0, AV.i .i64 0, AV.i .i64 0, AV.i .i64 0] (z1 (AV.i .i64 (Int.ofNat (mV c 0))) (z1 (AV.i .i64 (Int.ofNat (mV c 1))) (zl (AV.i .i64 (Int.ofNat (mV c 3)))) T.e) (z1 (AV.i .i64 (Int.ofNat (mV c 2))) (zl (AV.i .i64 (if Int.ofNat n > Int.ofNat (mV c 4) then Int.ofNat n else Int.ofNat (mV c 4)))) T.e))))) (z1 (AObj.cells 3 1 [] (zl (AV.i .i64 2))) (zl (AObj.cells 73 5 [AV.i .i64 0, AV.i .i64 0, AV.i .i64 0, AV.i .i64 0, AV.i .i64 0] (z1 (AV.i .i64 (Int.ofNat (mV c 0))) (z1 (AV.i .i64 (Int.ofNat (mV c 1))) (zl (AV.i .i64 (Int.ofNat (mV c 3)))) T.e) (z1 (AV.i .i64 (Int.ofNat (mV c 2))) (zl (AV.i .i64 (Int.ofNat (mV c 4)))) T.e)))) T.e), 6, [1, 0, 5, 5, 5, 4, 4, 3, 2]⟩) Orc.z)))) ∧ (decide (1 ≤
  Int.ofNat n) = false → decide (1 ≤ Int.ofNat n) = false ∧ decide (1 ≤ Int.ofNat n) = false ∧ decide (1 ≤ Int.ofNat n) = false ∧ True ∧ True ∧ True ∧ (rd = true → K (Res.rv (AV.i .i64 13) ⟨z1 (CS.ro c rd) (z1 (SS.o s) (zl (AObj.cells 3 1 [] (zl (AV.i .i64 (Int.ofNat n))))) T.e) (zl (AObj.cells 3 1 [] (zl (AV.i .i64 2)))), 4, [3, 2]⟩) Orc.z) ∧ (rd = false → True ∧ K (Res.rv (AV.i .i64 2) ⟨z1 (CS.ro c rd) (z1 (SS.o s) (zl (AObj.cells 3 1 [] (zl (AV.i .i64 (Int.ofNat n))))) T.e) (zl (AObj.cells 3 1 [] (zl (AV.i .i64 2)))), 4, [3, 2]⟩) Orc.z))) := by kernel_rfl
theorem FenceX_vc (c : CS) (rd : Bool) (s : SS) (sv : Int) (n : Nat) (h : decide (0 ≤ sv) = false) (K : Res → Orc → Prop) : runK Tryd.prog 1000000 (.call 31 [.p 0 0, .i .i64 sv, .i .i64 (Int.ofNat n)] (mkH [some (c.ro rd), some s.o])) (Orc.inl (Orc.inl (Orc.f (Orc.f (Orc.f (Orc.f (oc 3 (Orc.inl (Orc.c (Orc.s (Orc.c Orc.z) (oc 2 Orc.z))))))))))) K = (decide (0 ≤ sv) = false ∧ decide (0 ≤ sv) = false ∧ decide (0 ≤ sv) = false ∧ decide (0 ≤ sv) = false ∧ True ∧ True ∧ True ∧ (rd = true → K (Res.rv (AV.i .i64 13) ⟨z1 (CS.ro c rd) (z1 (SS.o s) (zl (AObj.cells 3 1 [] (zl (AV.i .i64 (Int.ofNat n))))) T.e) (zl (AObj.cells 3 1 [] (zl (AV.i .i64 sv)))), 4, [3, 2]⟩) Orc.z) ∧ (rd = false → True ∧ K (Res.rv (AV.i .i64 2) ⟨z1 (CS.ro c rd) (z1 (SS.o s) (zl (AObj.cells 3 1 [] (zl (AV.i .i64 (Int.ofNat n))))) T.e) (zl (AObj.cells 3 1 [] (zl (AV.i .i64 sv)))), 4, [3, 2]⟩) Orc.z)) := by kernel_rfl
theorem FenceY_vc (c : CS) (rd : Bool) (s : SS) (sv : Int) (n : Nat) (h : decide (0 ≤ sv) = true) (h2 : decide (sv ≤ 2) = false) (K : Res → Orc → Prop) : runK Tryd.prog 1000000 (.call 31 [.p 0 0, .i .i64 sv, .i .i64 (Int.ofNat n)] (mkH [some (c.ro rd), some s.o])) (Orc.inl (Orc.inl (Orc.t (Orc.t (Orc.t (Orc.t (Orc.f (Orc.f (Orc.f (Orc.inl (Orc.c (Orc.s (Orc.c Orc.z) (oc 2 Orc.z))))))))))))) K = (decide (0 ≤ sv) = true ∧ decide (0 ≤ sv) = true ∧ decide (0 ≤ sv) = true ∧ decide (0 ≤ sv) = true ∧ decide (sv ≤ 2) = false ∧ decide (sv ≤ 2) = false ∧ decide (sv ≤ 2) = false ∧ True ∧ True ∧ True ∧ (rd = true → K (Res.rv (AV.i .i64 13) ⟨z1 (CS.ro c rd) (z1 (SS.o s) (zl (AObj.cells 3 1 [] (zl (AV.i .i64 (Int.ofNat n))))) T.e) (zl (AObj.cells 3 1 [] (zl (AV.i .i64 sv)))), 4, [3, 2]⟩) Orc.z) ∧ (rd = false → True ∧ K (Res.rv (AV.i .i64 2) ⟨z1 (CS.ro c rd) (z1 (SS.o s) (zl (AObj.cells 3 1 [] (zl
  (AV.i .i64 (Int.ofNat n))))) T.e) (zl (AObj.cells 3 1 [] (zl (AV.i .i64 sv)))), 4, [3, 2]⟩) Orc.z)) := by kernel_rfl
theorem FenceZ_vc (c : CS) (rd : Bool) (s : SS) (sv x : Int) (h : decide (1 ≤ x) = false) (K : Res → Orc → Prop) : runK Tryd.prog 1000000 (.call 31 [.p 0 0, .i .i64 sv, .i .i64 x] (mkH [some (c.ro rd), some s.o])) (Orc.inl (Orc.inl (Orc.s (Orc.t (Orc.t (Orc.t (Orc.s (Orc.t (Orc.inl (Orc.inl (Orc.f (Orc.f (Orc.f (Orc.f (Orc.t (Orc.inl (Orc.c (Orc.s (Orc.c Orc.z) (oc 2 Orc.z)))))))))))) (Orc.f (Orc.f (Orc.inl (Orc.c (Orc.s (Orc.c Orc.z) (oc 2 Orc.z)))))))))) (Orc.f (Orc.f (Orc.f (oc 3 (Orc.inl (Orc.c (Orc.s (Orc.c Orc.z) (oc 2 Orc.z))))))))))) K = ((decide (0 ≤ sv) = true → decide (0 ≤ sv) = true ∧ decide (0 ≤ sv) = true ∧ decide (0 ≤ sv) = true ∧ (decide (sv ≤ 2) = true → decide (sv ≤ 2) = true ∧ decide (1 ≤ x) = false ∧ decide (1 ≤ x) = false ∧ decide (1 ≤ x) = false ∧ decide (1 ≤ x) = false ∧ decide (sv ≤ 2) = true ∧ True ∧ True ∧ True ∧ (rd = true → K (Res.rv (AV.i .i64 13) ⟨z1 (CS.ro
  c rd) (z1 (SS.o s) (zl (AObj.cells 3 1 [] (zl (AV.i .i64 x)))) T.e) (zl (AObj.cells 3 1 [] (zl (AV.i .i64 sv)))), 4, [3, 2]⟩) Orc.z) ∧ (rd = false → True ∧ K (Res.rv (AV.i .i64 2) ⟨z1 (CS.ro c rd) (z1 (SS.o s) (zl (AObj.cells 3 1 [] (zl (AV.i .i64 x)))) T.e) (zl (AObj.cells 3 1 [] (zl (AV.i .i64 sv)))), 4, [3, 2]⟩) Orc.z)) ∧ (decide (sv ≤ 2) = false → decide (sv ≤ 2) = false ∧ decide (sv ≤ 2) = false ∧ True ∧ True ∧ True ∧ (rd = true → K (Res.rv (AV.i .i64 13) ⟨z1 (CS.ro c rd) (z1 (SS.o s) (zl (AObj.cells 3 1 [] (zl (AV.i .i64 x)))) T.e) (zl (AObj.cells 3 1 [] (zl (AV.i .i64 sv)))), 4, [3, 2]⟩) Orc.z) ∧ (rd = false → True ∧ K (Res.rv (AV.i .i64 2) ⟨z1 (CS.ro c rd) (z1 (SS.o s) (zl (AObj.cells 3 1 [] (zl (AV.i .i64 x)))) T.e) (zl (AObj.cells 3 1 [] (zl (AV.i .i64 sv)))), 4, [3, 2]⟩) Orc.z))) ∧ (decide (0 ≤ sv) = false → decide (0 ≤ sv) = false ∧ decide (0 ≤ sv) = false ∧ decide (0 ≤ sv)
  = false ∧ True ∧ True ∧ True ∧ (rd = true → K (Res.rv (AV.i .i64 13) ⟨z1 (CS.ro c rd) (z1 (SS.o s) (zl (AObj.cells 3 1 [] (zl (AV.i .i64 x)))) T.e) (zl (AObj.cells 3 1 [] (zl (AV.i .i64 sv)))), 4, [3, 2]⟩) Orc.z) ∧ (rd = false → True ∧ K (Res.rv (AV.i .i64 2) ⟨z1 (CS.ro c rd) (z1 (SS.o s) (zl (AObj.cells 3 1 [] (zl (AV.i .i64 x)))) T.e) (zl (AObj.cells 3 1 [] (zl (AV.i .i64 sv)))), 4, [3, 2]⟩) Orc.z))) := by kernel_rfl
theorem mtI_con {a b c d e : Nat} (ha : a ≤ 1099511627776) (hb : b ≤ 1099511627776) (hc : c ≤ 1099511627776) (hd : d ≤ 1099511627776) (he : e ≤ 1099511627776) :
    Con Tryd.prog 80 [.agg [.i .i64 (Int.ofNat a), .i .i64 (Int.ofNat b), .i .i64 (Int.ofNat c), .i .i64 (Int.ofNat d), .i .i64 (Int.ofNat e)]] [] (.s (mtI (Int.ofNat a) (Int.ofNat b) (Int.ofNat c) (Int.ofNat d) (Int.ofNat e))) [] :=
  metaText_con a b c d e (by omega) (by omega) (by omega) (by omega) (by omega)
noncomputable def fv (c : CS) (sv gen : Int) (k : Nat) : Nat := bif decide (sv = Int.ofNat k) then gen.toNat else mV c (2 + k)
noncomputable def fenceT (c : CS) (sv gen : Int) : List Nat := mtx (mV c 0) (mV c 1) (fv c sv gen 0) (fv c sv gen 1) (fv c sv gen 2)
noncomputable def mayF (sv gen : Int) : Bool := decide ((0 : Int) ≤ sv) && (decide (sv ≤ (2 : Int)) && (decide ((1 : Int) ≤ gen) && decide (gen ≤ (1099511627776 : Int))))
noncomputable def fenceW (c : CS) (rd : Bool) (sv gen : Int) : Int := bif rd then 13 else bif mayF sv gen then (bif decide (gen ≤ fnc c sv) then 0 else -1) else 2
theorem if_same {n v : Nat} (h : decide (Int.ofNat n ≤ Int.ofNat v) = true) : (if Int.ofNat n > Int.ofNat v then Int.ofNat n else Int.ofNat v) = Int.ofNat v := by
  have := of_decide_eq_true h
  exact if_neg (by omega)
theorem if_more {n v : Nat} (h : decide (Int.ofNat n ≤ Int.ofNat v) = false) : (if Int.ofNat n > Int.ofNat v then Int.ofNat n else Int.ofNat v) = Int.ofNat n := by
  have := of_decide_eq_false h
  exact if_pos (by omega)
theorem ne_more {n v : Nat} (h : decide (Int.ofNat n ≤ Int.ofNat v) = false) : decide (Int.ofNat n = Int.ofNat v) = false := by
  have := of_decide_eq_false h
  exact decide_eq_false (by omega)
theorem fence0_con {c : CS} {s : SS} {m : Nat} (h : Inv c s m) (ht : Txt c) (hm : m < 1073741823) (rd : Bool) (n : Nat) (h1 : decide ((1 : Int) ≤ Int.ofNat n) = true) :
    Act 31 [.p 0 0, .i .i64 0, .i .i64 (Int.ofNat n)] (fenceW c rd 0 (Int.ofNat n)) c rd s 128 (fenceT c 0 (Int.ofNat n)) := by
  have b0 := mV_le c 0 (by omega); have b1 := mV_le c 1 (by omega); have b2 := mV_le c 2 (by omega); have b3 := mV_le c 3 (by omega); have b4 := mV_le c 4 (by omega)
  have k1 := meta_con c false s ht
  have hs : ∀ j, decide (Int.ofNat (mV c j) = Int.ofNat (mV c j)) = true := fun j => decide_eq_true (Eq.refl _)
  cases rd with
  | true =>
    refine .no (by unfold fenceW; rfl) (con_of_run [] [] ((Fence0_vc c true s n _).mpr ?_))
    simp only [h1, bs, Bool.and_self]; exact ⟨_, _, rfl, ret_k (by kernel_rfl)⟩
  | false =>
    cases hb : decide (Int.ofNat n ≤ (1099511627776 : Int)) with
    | false =>
      have e : fenceW c false 0 (Int.ofNat n) = 2 := by unfold fenceW mayF; rw [hb, h1]; rfl
      rw [e]
      refine .no (by rfl) (con_of_run [] [] ((Fence0_vc c false s n _).mpr ?_))
      simp only [h1, hb, bs, Bool.and_self]; exact ⟨_, _, rfl, ret_k (by kernel_rfl)⟩
    | true =>
      have hn : n ≤ 1099511627776 := by have := of_decide_eq_true hb; simp at this; omega
      cases hq : decide (Int.ofNat n ≤ Int.ofNat (mV c 2)) with
      | true =>
        have e : fenceW c false 0 (Int.ofNat n) = 0 := by
          have : decide (Int.ofNat n ≤ fnc c 0) = true := hq
          unfold fenceW mayF; rw [hb, h1, this]; rfl
        rw [e]
        refine .no (by rfl) (con_of_run [] [] ((Fence0_vc c false s n _).mpr ?_))
        simp only [h1, hb, if_same hq, hs, decide_true, Bool.and_true, Bool.true_and, bs, Bool.and_self]
        exact ⟨k1, _, _, rfl, ret_k (by kernel_rfl)⟩
      | false =>
        have e : fenceW c false 0 (Int.ofNat n) = -1 := by
          have : decide (Int.ofNat n ≤ fnc c 0) = false := hq
          unfold fenceW mayF; rw [hb, h1, this]; rfl
        rw [e]
        refine .yes (by rfl) (con_of_run [] [] ((Fence0_vc c false s n _).mpr ?_))
        simp only [h1, hb, if_more hq, ne_more hq, hs, decide_true, Bool.and_true, Bool.true_and, Bool.false_and, Bool.and_false, bs, Bool.and_self]
        exact ⟨k1, mtI_con b0 b1 hn b3 b4, rpd_con h hm false 128 _ (mtx_lt b0 b1 hn b3 b4), _, _, rfl, ret_k (by kernel_rfl)⟩
theorem fence1_con {c : CS} {s : SS} {m : Nat} (h : Inv c s m) (ht : Txt c) (hm : m < 1073741823) (rd : Bool) (n : Nat) (h1 : decide ((1 : Int) ≤ Int.ofNat n) = true) :
    Act 31 [.p 0 0, .i .i64 1, .i .i64 (Int.ofNat n)] (fenceW c rd 1 (Int.ofNat n)) c rd s 128 (fenceT c 1 (Int.ofNat n)) := by
  have b0 := mV_le c 0 (by omega); have b1 := mV_le c 1 (by omega); have b2 := mV_le c 2 (by omega); have b3 := mV_le c 3 (by omega); have b4 := mV_le c 4 (by omega)
  have k1 := meta_con c false s ht
  have hs : ∀ j, decide (Int.ofNat (mV c j) = Int.ofNat (mV c j)) = true := fun j => decide_eq_true (Eq.refl _)
  cases rd with
  | true =>
    refine .no (by unfold fenceW; rfl) (con_of_run [] [] ((Fence1_vc c true s n _).mpr ?_))
    simp only [h1, bs, Bool.and_self]; exact ⟨_, _, rfl, ret_k (by kernel_rfl)⟩
  | false =>
    cases hb : decide (Int.ofNat n ≤ (1099511627776 : Int)) with
    | false =>
      have e : fenceW c false 1 (Int.ofNat n) = 2 := by unfold fenceW mayF; rw [hb, h1]; rfl
      rw [e]
      refine .no (by rfl) (con_of_run [] [] ((Fence1_vc c false s n _).mpr ?_))
      simp only [h1, hb, bs, Bool.and_self]; exact ⟨_, _, rfl, ret_k (by kernel_rfl)⟩
    | true =>
      have hn : n ≤ 1099511627776 := by have := of_decide_eq_true hb; simp at this; omega
      cases hq : decide (Int.ofNat n ≤ Int.ofNat (mV c 3)) with
      | true =>
        have e : fenceW c false 1 (Int.ofNat n) = 0 := by
          have : decide (Int.ofNat n ≤ fnc c 1) = true := hq
          unfold fenceW mayF; rw [hb, h1, this]; rfl
        rw [e]
        refine .no (by rfl) (con_of_run [] [] ((Fence1_vc c false s n _).mpr ?_))
        simp only [h1, hb, if_same hq, hs, decide_true, Bool.and_true, Bool.true_and, bs, Bool.and_self]
        exact ⟨k1, _, _, rfl, ret_k (by kernel_rfl)⟩
      | false =>
        have e : fenceW c false 1 (Int.ofNat n) = -1 := by
          have : decide (Int.ofNat n ≤ fnc c 1) = false := hq
          unfold fenceW mayF; rw [hb, h1, this]; rfl
        rw [e]
        refine .yes (by rfl) (con_of_run [] [] ((Fence1_vc c false s n _).mpr ?_))
        simp only [h1, hb, if_more hq, ne_more hq, hs, decide_true, Bool.and_true, Bool.true_and, Bool.false_and, Bool.and_false, bs, Bool.and_self]
        exact ⟨k1, mtI_con b0 b1 b2 hn b4, rpd_con h hm false 128 _ (mtx_lt b0 b1 b2 hn b4), _, _, rfl, ret_k (by kernel_rfl)⟩
theorem fence2_con {c : CS} {s : SS} {m : Nat} (h : Inv c s m) (ht : Txt c) (hm : m < 1073741823) (rd : Bool) (n : Nat) (h1 : decide ((1 : Int) ≤ Int.ofNat n) = true) :
    Act 31 [.p 0 0, .i .i64 2, .i .i64 (Int.ofNat n)] (fenceW c rd 2 (Int.ofNat n)) c rd s 128 (fenceT c 2 (Int.ofNat n)) := by
  have b0 := mV_le c 0 (by omega); have b1 := mV_le c 1 (by omega); have b2 := mV_le c 2 (by omega); have b3 := mV_le c 3 (by omega); have b4 := mV_le c 4 (by omega)
  have k1 := meta_con c false s ht
  have hs : ∀ j, decide (Int.ofNat (mV c j) = Int.ofNat (mV c j)) = true := fun j => decide_eq_true (Eq.refl _)
  cases rd with
  | true =>
    refine .no (by unfold fenceW; rfl) (con_of_run [] [] ((Fence2_vc c true s n _).mpr ?_))
    simp only [h1, bs, Bool.and_self]; exact ⟨_, _, rfl, ret_k (by kernel_rfl)⟩
  | false =>
    cases hb : decide (Int.ofNat n ≤ (1099511627776 : Int)) with
    | false =>
      have e : fenceW c false 2 (Int.ofNat n) = 2 := by unfold fenceW mayF; rw [hb, h1]; rfl
      rw [e]
      refine .no (by rfl) (con_of_run [] [] ((Fence2_vc c false s n _).mpr ?_))
      simp only [h1, hb, bs, Bool.and_self]; exact ⟨_, _, rfl, ret_k (by kernel_rfl)⟩
    | true =>
      have hn : n ≤ 1099511627776 := by have := of_decide_eq_true hb; simp at this; omega
      cases hq : decide (Int.ofNat n ≤ Int.ofNat (mV c 4)) with
      | true =>
        have e : fenceW c false 2 (Int.ofNat n) = 0 := by
          have : decide (Int.ofNat n ≤ fnc c 2) = true := hq
          unfold fenceW mayF; rw [hb, h1, this]; rfl
        rw [e]
        refine .no (by rfl) (con_of_run [] [] ((Fence2_vc c false s n _).mpr ?_))
        simp only [h1, hb, if_same hq, hs, decide_true, Bool.and_true, Bool.true_and, bs, Bool.and_self]
        exact ⟨k1, _, _, rfl, ret_k (by kernel_rfl)⟩
      | false =>
        have e : fenceW c false 2 (Int.ofNat n) = -1 := by
          have : decide (Int.ofNat n ≤ fnc c 2) = false := hq
          unfold fenceW mayF; rw [hb, h1, this]; rfl
        rw [e]
        refine .yes (by rfl) (con_of_run [] [] ((Fence2_vc c false s n _).mpr ?_))
        simp only [h1, hb, if_more hq, ne_more hq, hs, decide_true, Bool.and_true, Bool.true_and, Bool.false_and, Bool.and_false, bs, Bool.and_self]
        exact ⟨k1, mtI_con b0 b1 b2 b3 hn, rpd_con h hm false 128 _ (mtx_lt b0 b1 b2 b3 hn), _, _, rfl, ret_k (by kernel_rfl)⟩
theorem fence_con {c : CS} {s : SS} {m : Nat} (h : Inv c s m) (ht : Txt c) (hm : m < 1073741823) (rd : Bool) (sv gen : Int) :
    Act 31 [.p 0 0, .i .i64 sv, .i .i64 gen] (fenceW c rd sv gen) c rd s 128 (fenceT c sv gen) := by
  cases hx : decide ((1 : Int) ≤ gen) with
  | false =>
    have hmay : mayF sv gen = false := by unfold mayF; rw [hx]; simp only [Bool.false_and, Bool.and_false]
    cases rd with
    | true => exact .no (by unfold fenceW; rfl) (con_of_run [] [] ((FenceZ_vc c true s sv gen hx _).mpr (by cases h0 : decide ((0 : Int) ≤ sv) <;> cases h1 : decide (sv ≤ (2 : Int)) <;> simp only [h0, h1, hx, bs, Bool.and_self] <;> exact ⟨_, _, rfl, ret_k (by kernel_rfl)⟩)))
    | false =>
      have e : fenceW c false sv gen = 2 := by unfold fenceW; rw [hmay]; rfl
      rw [e]
      exact .no (by rfl) (con_of_run [] [] ((FenceZ_vc c false s sv gen hx _).mpr (by cases h0 : decide ((0 : Int) ≤ sv) <;> cases h1 : decide (sv ≤ (2 : Int)) <;> simp only [h0, h1, hx, bs, Bool.and_self] <;> exact ⟨_, _, rfl, ret_k (by kernel_rfl)⟩)))
  | true =>
    obtain ⟨n, rfl⟩ : ∃ n : Nat, gen = Int.ofNat n := ⟨gen.toNat, by have := of_decide_eq_true hx; simp; omega⟩
    cases h0 : decide ((0 : Int) ≤ sv) with
    | false =>
      have hmay : mayF sv (Int.ofNat n) = false := by unfold mayF; rw [h0]; rfl
      cases rd with
      | true => exact .no (by unfold fenceW; rfl) (con_of_run [] [] ((FenceX_vc c true s sv n h0 _).mpr (by simp only [h0, bs, Bool.and_self]; exact ⟨_, _, rfl, ret_k (by kernel_rfl)⟩)))
      | false =>
        have e : fenceW c false sv (Int.ofNat n) = 2 := by unfold fenceW; rw [hmay]; rfl
        rw [e]
        exact .no (by rfl) (con_of_run [] [] ((FenceX_vc c false s sv n h0 _).mpr (by simp only [h0, bs, Bool.and_self]; exact ⟨_, _, rfl, ret_k (by kernel_rfl)⟩)))
    | true =>
      cases h2 : decide (sv ≤ (2 : Int)) with
      | false =>
        have hmay : mayF sv (Int.ofNat n) = false := by unfold mayF; rw [h0, h2]; rfl
        cases rd with
        | true => exact .no (by unfold fenceW; rfl) (con_of_run [] [] ((FenceY_vc c true s sv n h0 h2 _).mpr (by simp only [h0, h2, bs, Bool.and_self]; exact ⟨_, _, rfl, ret_k (by kernel_rfl)⟩)))
        | false =>
          have e : fenceW c false sv (Int.ofNat n) = 2 := by unfold fenceW; rw [hmay]; rfl
          rw [e]
          exact .no (by rfl) (con_of_run [] [] ((FenceY_vc c false s sv n h0 h2 _).mpr (by simp only [h0, h2, bs, Bool.and_self]; exact ⟨_, _, rfl, ret_k (by kernel_rfl)⟩)))
      | true =>
        have a := of_decide_eq_true h0; have b := of_decide_eq_true h2
        have : sv = 0 ∨ sv = 1 ∨ sv = 2 := by omega
        rcases this with rfl | rfl | rfl
        · exact fence0_con h ht hm rd n hx
        · exact fence1_con h ht hm rd n hx
        · exact fence2_con h ht hm rd n hx
theorem AdoptZ_vc (c : CS) (rd : Bool) (s : SS) (x : Int) (h : decide (1 ≤ x) = false) (K : Res → Orc → Prop) : runK Tryd.prog 1000000 (.call 32 [.p 0 0, .i .i64 x] (mkH [some (c.ro rd), some s.o])) (Orc.inl (Orc.f (Orc.f (Orc.f (Orc.f (Orc.inl (Orc.c (Orc.s (Orc.c Orc.z) (oc 2 Orc.z))))))))) K = (decide (1 ≤ x) = false ∧ decide (1 ≤ x) = false ∧ decide (1 ≤ x) = false ∧ decide (1 ≤ x) = false ∧ True ∧ True ∧ True ∧ (rd = true → K (Res.rv (AV.i .i64 13) ⟨z1 (CS.ro c rd) (zl (SS.o s)) (zl (AObj.cells 3 1 [] (zl (AV.i .i64 x)))), 3, [2]⟩) Orc.z) ∧ (rd = false → True ∧ K (Res.rv (AV.i .i64 2) ⟨z1 (CS.ro c rd) (zl (SS.o s)) (zl (AObj.cells 3 1 [] (zl (AV.i .i64 x)))), 3, [2]⟩) Orc.z)) := by kernel_rfl
theorem JoinZ_vc (c : CS) (rd : Bool) (s : SS) (x : Int) (h : decide (0 ≤ x) = false) (K : Res → Orc → Prop) : runK Tryd.prog 1000000 (.call 55 [.p 0 0, .i .i64 x] (mkH [some (c.ro rd), some s.o])) (Orc.inl (Orc.f (Orc.f (Orc.f (Orc.f (Orc.inl (Orc.c (Orc.s (Orc.c Orc.z) (oc 2 Orc.z))))))))) K = (decide (0 ≤ x) = false ∧ decide (0 ≤ x) = false ∧ decide (0 ≤ x) = false ∧ decide (0 ≤ x) = false ∧ True ∧ True ∧ True ∧ (rd = true → K (Res.rv (AV.i .i64 13) ⟨z1 (CS.ro c rd) (zl (SS.o s)) (zl (AObj.cells 3 1 [] (zl (AV.i .i64 x)))), 3, [2]⟩) Orc.z) ∧ (rd = false → True ∧ K (Res.rv (AV.i .i64 2) ⟨z1 (CS.ro c rd) (zl (SS.o s)) (zl (AObj.cells 3 1 [] (zl (AV.i .i64 x)))), 3, [2]⟩) Orc.z)) := by kernel_rfl
noncomputable def adoptI (c : CS) (rd : Bool) (x : Int) : Int := bif decide ((0 : Int) ≤ x) then adoptW c rd x.toNat else bif rd then 13 else 2
noncomputable def joinI (c : CS) (rd : Bool) (x : Int) : Int := bif decide ((0 : Int) ≤ x) then joinW c rd x.toNat else bif rd then 13 else 2
theorem adoptI_con {c : CS} {s : SS} {m : Nat} (h : Inv c s m) (ht : Txt c) (hm : m < 1073741823) (rd : Bool) (x : Int) : Act 32 [.p 0 0, .i .i64 x] (adoptI c rd x) c rd s 128 (adoptT c x.toNat) := by
  cases hx : decide ((0 : Int) ≤ x) with
  | true =>
    obtain ⟨n, rfl⟩ : ∃ n : Nat, x = Int.ofNat n := ⟨x.toNat, by have := of_decide_eq_true hx; simp; omega⟩
    have e : adoptI c rd (Int.ofNat n) = adoptW c rd n := by unfold adoptI; rw [hx]; rfl
    rw [e]; exact adopt_con h ht hm rd n
  | false =>
    have nx : ¬ (0 : Int) ≤ x := of_decide_eq_false hx
    have h1 : decide ((1 : Int) ≤ x) = false := decide_eq_false (by omega)
    cases rd with
    | true =>
      have e : adoptI c true x = 13 := by unfold adoptI; rw [hx]; rfl
      rw [e]; exact .no (by rfl) (con_of_run [] [] ((AdoptZ_vc c true s x h1 _).mpr (by simp only [h1, bs]; exact ⟨_, _, rfl, ret_k (by kernel_rfl)⟩)))
    | false =>
      have e : adoptI c false x = 2 := by unfold adoptI; rw [hx]; rfl
      rw [e]; exact .no (by rfl) (con_of_run [] [] ((AdoptZ_vc c false s x h1 _).mpr (by simp only [h1, bs]; exact ⟨_, _, rfl, ret_k (by kernel_rfl)⟩)))
theorem joinI_con {c : CS} {s : SS} {m : Nat} (h : Inv c s m) (ht : Txt c) (hm : m < 1073741823) (rd : Bool) (x : Int) : Act 55 [.p 0 0, .i .i64 x] (joinI c rd x) c rd s 128 (joinT c x.toNat) := by
  cases hx : decide ((0 : Int) ≤ x) with
  | true =>
    obtain ⟨n, rfl⟩ : ∃ n : Nat, x = Int.ofNat n := ⟨x.toNat, by have := of_decide_eq_true hx; simp; omega⟩
    have e : joinI c rd (Int.ofNat n) = joinW c rd n := by unfold joinI; rw [hx]; rfl
    rw [e]; exact join_con h ht hm rd n
  | false =>
    cases rd with
    | true =>
      have e : joinI c true x = 13 := by unfold joinI; rw [hx]; rfl
      rw [e]; exact .no (by rfl) (con_of_run [] [] ((JoinZ_vc c true s x hx _).mpr (by simp only [hx, bs]; exact ⟨_, _, rfl, ret_k (by kernel_rfl)⟩)))
    | false =>
      have e : joinI c false x = 2 := by unfold joinI; rw [hx]; rfl
      rw [e]; exact .no (by rfl) (con_of_run [] [] ((JoinZ_vc c false s x hx _).mpr (by simp only [hx, bs]; exact ⟨_, _, rfl, ret_k (by kernel_rfl)⟩)))
end Go.Proofs.Cl
