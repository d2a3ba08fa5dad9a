/- Runs over unknown values, told by the kernel: part StB. -/
import Derived.Test.YtcdmnjjgnodpdaaStA
set_option linter.unusedSimpArgs false
set_option linter.unusedVariables false
set_option maxRecDepth 20000
namespace Go.Proofs.St
open Go Go.Sim Go.Proofs

theorem armL_vc (s : SS) (k keep : Int) (L i tk : Nat) (aa : Nat → Int) (ok : s.Ok) (hl : s.P.length ≤ 1073741824) (ha : ∀ q ∈ s.P, q.1 < 512) (K : Res → Orc → Prop) : runK
  Try.prog 1000000 (.code (loopAt Try.prog 7 0) 141 (mkT [(0, .i .i64 k), (2, .i .i64 keep), (7, .p 0 0), (9, .i .i64 (Int.ofNat tk)), (41, .sv 1 L fun i _ => .i .i64 (aa i)), (42,
  .i .i64 (Int.ofNat L)), (43, .i .i64 (Int.ofNat i))]) (mkH [some s.o])) (Orc.s (Orc.cal [] (AV.lr 0 1 0 64 false) [Upd.set (AObj.rows 5 1 64 (fF (wrapA IntKind.u8 (Int.ofNat i +
  (1 : Int)))))] (Orc.cal [0, 1] (AV.i IntKind.i64 (SS.wrE s (aa i) 64)) [Upd.set (SS.o (SS.wrS s (aa i) 64 (fB (wrapA IntKind.u8 (Int.ofNat i + (1 : Int)))))), Upd.keep] (Orc.s
  (Orc.t (Orc.t (Orc.s (Orc.t (Orc.t (Orc.s (Orc.t (Orc.t (Orc.t (Orc.cal [0] (AV.b (SS.off (SS.wrS s (aa i) 64 (fB (wrapA IntKind.u8 (Int.ofNat i + (1 : Int))))))) [Upd.keep]
  (Orc.s (Orc.t (Orc.cal [0] (AV.b (SS.off (SS.wrS s (aa i) 64 (fB (wrapA IntKind.u8 (Int.ofNat i + (1 : Int))))))) [Upd.keep] (Orc.t (Orc.s (Orc.t (Orc.t (Orc.t (Orc.f (Orc.s Orc.z
  (Orc.f (Orc.s (Orc.t (Orc.t (Orc.f (Orc.f (Orc.t (Orc.f (Orc.f (Orc.c (Orc.t Orc.z))))))))) (Orc.f (Orc.f (Orc.f (Orc.t (Orc.c Orc.z)))))))))))) (Orc.f (Orc.t (Orc.f (Orc.f (Orc.f
  (Orc.f (Orc.s (Orc.t (Orc.t (Orc.f (Orc.f (Orc.t (Orc.f (Orc.f (Orc.c (Orc.t Orc.z))))))))) (Orc.f (Orc.f (Orc.f (Orc.t (Orc.c Orc.z)))))))))))))))) (Orc.f (Orc.f (Orc.f (Orc.t
  (Orc.s Orc.z (Orc.t (Orc.s (Orc.t (Orc.cal [0] (AV.i IntKind.i64 (Int.ofNat (List.length (SS.P (SS.wrS s (aa i) 64 (fB (wrapA IntKind.u8 (Int.ofNat i + (1 : Int)))))))))
  [Upd.keep] (Orc.t (Orc.t (Orc.t (Orc.f (Orc.s (Orc.t (Orc.cal [0] (AV.i IntKind.i64 (Int.ofNat (SS.wr (SS.wrS s (aa i) 64 (fB (wrapA IntKind.u8 (Int.ofNat i + (1 : Int))))))))
  [Upd.keep] (Orc.t (Orc.t (Orc.t (Orc.f (Orc.s Orc.z (Orc.cal [0] (AV.i IntKind.i64 (SS.revE (SS.wrS s (aa i) 64 (fB (wrapA IntKind.u8 (Int.ofNat i + (1 : Int))))))) [Upd.set (SS.o
  (SS.revived (SS.wrS s (aa i) 64 (fB (wrapA IntKind.u8 (Int.ofNat i + (1 : Int))))) keep false))] (Orc.s (Orc.t (Orc.cal [0] (AV.i IntKind.i64 (Int.ofNat (List.length (SS.P
  (SS.revived (SS.wrS s (aa i) 64 (fB (wrapA IntKind.u8 (Int.ofNat i + (1 : Int))))) keep false))))) [Upd.keep] (Orc.t (Orc.t (Orc.s (Orc.t (Orc.cal [] (AV.lr 0 1 0 64 false)
  [Upd.set (AObj.rows 5 1 64 (fF (9 : Int)))] (Orc.t (Orc.cal [0, 2] (AV.i IntKind.i64 (SS.wrE (SS.revived (SS.wrS s (aa i) 64 (fB (wrapA IntKind.u8 (Int.ofNat i + (1 : Int)))))
  keep false) (0 : Int) 64)) [Upd.set (SS.o (SS.wrS (SS.revived (SS.wrS s (aa i) 64 (fB (wrapA IntKind.u8 (Int.ofNat i + (1 : Int))))) keep false) (0 : Int) 64 (fB (9 : Int)))),
  Upd.keep] (Orc.t (Orc.t Orc.z)))))) (Orc.f (Orc.f (Orc.f (Orc.f Orc.z))))))))) (Orc.f (Orc.f (Orc.f (Orc.c (Orc.c (Orc.c (Orc.c (Orc.c Orc.z))))))))))))))))) (Orc.f (Orc.f (Orc.f
  (Orc.f (Orc.t (Orc.c Orc.z))))))))))))) (Orc.f (Orc.f (Orc.f (Orc.f (Orc.t (Orc.c (Orc.c (Orc.c (Orc.c (Orc.c (Orc.c (Orc.c Orc.z)))))))))))))))))))))))) (Orc.f (Orc.f (Orc.f
  (Orc.cal [0] (AV.b (SS.off (SS.wrS s (aa i) 64 (fB (wrapA IntKind.u8 (Int.ofNat i + (1 : Int))))))) [Upd.keep] (Orc.c (Orc.c (Orc.cal [0] (AV.b (SS.off (SS.wrS s (aa i) 64 (fB
  (wrapA IntKind.u8 (Int.ofNat i + (1 : Int))))))) [Upd.keep] (Orc.c (Orc.s (Orc.t (Orc.c (Orc.t (Orc.c (Orc.s Orc.z (Orc.c (Orc.s (Orc.t (Orc.t (Orc.f (Orc.f (Orc.t (Orc.f (Orc.f
  (Orc.c (Orc.t Orc.z))))))))) (Orc.f (Orc.f (Orc.f (Orc.t (Orc.c Orc.z)))))))))))) (Orc.f (Orc.c (Orc.f (Orc.c (Orc.f (Orc.c (Orc.s (Orc.t (Orc.t (Orc.f (Orc.f (Orc.t (Orc.f (Orc.f
  (Orc.c (Orc.t Orc.z))))))))) (Orc.f (Orc.f (Orc.f (Orc.t (Orc.c Orc.z)))))))))))))))))))))))) (Orc.f (Orc.f (Orc.c (Orc.c (Orc.c (Orc.c (Orc.cal [0] (AV.b (SS.off (SS.wrS s (aa i)
  64 (fB (wrapA IntKind.u8 (Int.ofNat i + (1 : Int))))))) [Upd.keep] (Orc.c (Orc.c (Orc.cal [0] (AV.b (SS.off (SS.wrS s (aa i) 64 (fB (wrapA IntKind.u8 (Int.ofNat i + (1 :
  Int))))))) [Upd.keep] (Orc.c (Orc.s (Orc.t (Orc.c (Orc.t (Orc.c (Orc.s Orc.z (Orc.c (Orc.s (Orc.t (Orc.t (Orc.t (Orc.t (Orc.t (Orc.t (Orc.f (Orc.s Orc.z (Orc.f Orc.z)))))))))
  (Orc.f (Orc.f (Orc.f (Orc.t (Orc.c Orc.z)))))))))))) (Orc.f (Orc.c (Orc.f (Orc.c (Orc.f (Orc.c (Orc.s (Orc.t (Orc.t (Orc.t (Orc.t (Orc.t (Orc.t (Orc.f (Orc.s Orc.z (Orc.f
  Orc.z))))))))) (Orc.f (Orc.f (Orc.f (Orc.t (Orc.c Orc.z))))))))))))))))))))))))))) (Orc.f (Orc.f (Orc.c (Orc.c (Orc.c (Orc.c (Orc.c (Orc.c (Orc.c (Orc.cal [0] (AV.b (SS.off
  (SS.wrS s (aa i) 64 (fB (wrapA IntKind.u8 (Int.ofNat i + (1 : Int))))))) [Upd.keep] (Orc.c (Orc.c (Orc.cal [0] (AV.b (SS.off (SS.wrS s (aa i) 64 (fB (wrapA IntKind.u8 (Int.ofNat i
  + (1 : Int))))))) [Upd.keep] (Orc.c (Orc.s (Orc.t (Orc.c (Orc.t (Orc.c (Orc.s Orc.z (Orc.c (Orc.s (Orc.t (Orc.t (Orc.c (Orc.c (Orc.t (Orc.c (Orc.f (Orc.s Orc.z (Orc.c
  Orc.z))))))))) (Orc.f (Orc.f (Orc.f (Orc.t (Orc.c Orc.z)))))))))))) (Orc.f (Orc.c (Orc.f (Orc.c (Orc.f (Orc.c (Orc.s (Orc.t (Orc.t (Orc.c (Orc.c (Orc.t (Orc.c (Orc.f (Orc.s Orc.z
  (Orc.c Orc.z))))))))) (Orc.f (Orc.f (Orc.f (Orc.t (Orc.c Orc.z)))))))))))))))))))))))))))))) Orc.z) K = ((decide (Int.ofNat i < Int.ofNat L) = true → ((0 : Int) ≤ Int.ofNat i ∧
  Int.ofNat i < ↑L) ∧ True ∧ ((-9223372036854775808 : Int) ≤ Int.ofNat i + (1 : Int) ∧ Int.ofNat i + (1 : Int) ≤ (9223372036854775807 : Int)) ∧ True ∧ Con Try.prog 25 [AV.i
  IntKind.u8 (wrapA IntKind.u8 (Int.ofNat i + (1 : Int))), AV.i IntKind.i64 (64 : Int)] [] (AV.lr 0 1 0 64 false) [Upd.set (AObj.rows 5 1 64 (fF (wrapA IntKind.u8 (Int.ofNat i + (1
  : Int)))))] ∧ Con Try.prog 24 [AV.p 0 0, AV.i IntKind.i64 (aa i), AV.lr 1 1 0 64 false] [some (SS.o s), some (AObj.rows 5 1 64 fun k x => CV.i IntKind.u8 (fB (wrapA IntKind.u8
  (Int.ofNat i + (1 : Int))) k))] (AV.i IntKind.i64 (SS.wrE s (aa i) 64)) [Upd.set (SS.o (SS.wrS s (aa i) 64 (fB (wrapA IntKind.u8 (Int.ofNat i + (1 : Int)))))), Upd.keep] ∧ (decide
  ((0 : Int) ≤ aa i) = true → decide ((0 : Int) ≤ aa i) = true ∧ decide ((0 : Int) ≤ aa i) = true ∧ (decide (aa i < (4 : Int)) = true → decide (aa i < (4 : Int)) = true ∧ decide (aa
  i < (4 : Int)) = true ∧ (decide ((0 : Int) ≤ k) = true → decide ((0 : Int) ≤ k) = true ∧ decide ((0 : Int) ≤ k) = true ∧ decide ((0 : Int) ≤ k) = true ∧ Con Try.prog 27 [AV.p 0 0]
  [some (SS.o (SS.wrS s (aa i) 64 (fB (wrapA IntKind.u8 (Int.ofNat i + (1 : Int))))))] (AV.b (SS.off (SS.wrS s (aa i) 64 (fB (wrapA IntKind.u8 (Int.ofNat i + (1 : Int)))))))
  [Upd.keep] ∧ ((!decide (Int.ofNat tk = k)) = true → (!decide (Int.ofNat tk = k)) = true ∧ Con Try.prog 27 [AV.p 0 0] [some (SS.o (SS.wrS s (aa i) 64 (fB (wrapA IntKind.u8
  (Int.ofNat i + (1 : Int))))))] (AV.b (SS.off (SS.wrS s (aa i) 64 (fB (wrapA IntKind.u8 (Int.ofNat i + (1 : Int))))))) [Upd.keep] ∧ (!decide (Int.ofNat tk = k)) = true ∧ (SS.off
  (SS.wrS s (aa i) 64 (fB (wrapA IntKind.u8 (Int.ofNat i + (1 : Int))))) = true → SS.off (SS.wrS s (aa i) 64 (fB (wrapA IntKind.u8 (Int.ofNat i + (1 : Int))))) = true ∧ (!decide
  (Int.ofNat tk = k)) = true ∧ SS.off (SS.wrS s (aa i) 64 (fB (wrapA IntKind.u8 (Int.ofNat i + (1 : Int))))) = true ∧ decide (Int.ofNat tk = k) = false ∧ True ∧ ((!SS.off (SS.wrS s
  (aa i) 64 (fB (wrapA IntKind.u8 (Int.ofNat i + (1 : Int))))) == decide (SS.wrE s (aa i) 64 = (13 : Int))) = true → K (Res.st XO.ret (T.n (some (AV.i IntKind.i64 k)) (T.n none (T.n
  none (T.n (some (AV.p 0 0)) (T.n none (T.n none (T.n (some (AV.i IntKind.i64 k)) T.e T.e) T.e) (T.n (some (AV.i IntKind.i64 (aa i))) (T.n (some (AV.b (decide (SS.wrE s (aa i) 64 =
  (13 : Int))))) T.e T.e) T.e)) (T.n none (T.n none (T.n (some (AV.p 0 0)) T.e T.e) T.e) (T.n (some (AV.i IntKind.i64 (aa i))) T.e T.e))) (T.n (some (AV.i IntKind.i64 (aa i))) (T.n
  none (T.n none (T.n (some (AV.i IntKind.i64 (Int.ofNat tk))) T.e T.e) T.e) (T.n (some (AV.i IntKind.i64 (Int.ofNat i + (1 : Int)))) T.e T.e)) (T.n none (T.n (some (AV.i
  IntKind.i64 (Int.ofNat i))) (T.n (some (AV.p 0 0)) T.e T.e) T.e) (T.n (some (AV.b (decide (aa i < (4 : Int))))) T.e T.e)))) (T.n none (T.n (some (AV.i IntKind.i64 (Int.ofNat tk)))
  (T.n none (T.n none (T.n (some (AV.b (decide ((0 : Int) ≤ k)))) T.e T.e) T.e) (T.n (some (AV.i IntKind.i64 (aa i))) (T.n (some (AV.b (decide (SS.wrE s (aa i) 64 = (13 : Int)))))
  T.e T.e) T.e)) (T.n none (T.n (some (AV.sv 1 L fun i x => CV.i IntKind.i64 (aa i))) (T.n (some (AV.b (decide (Int.ofNat tk = k)))) T.e T.e) T.e) (T.n (some (AV.b (decide ((0 :
  Int) ≤ aa i)))) T.e T.e))) (T.n (some (AV.b (decide (aa i < (4 : Int))))) (T.n none (T.n none (T.n (some (AV.b (decide (Int.ofNat tk = k)))) T.e T.e) T.e) (T.n (some (AV.lr 1 1 0
  64 false)) T.e T.e)) (T.n none (T.n (some (AV.i IntKind.i64 (Int.ofNat i))) (T.n (some (AV.b (SS.off (SS.wrS s (aa i) 64 (fB (wrapA IntKind.u8 (Int.ofNat i + (1 : Int)))))))) T.e
  T.e) T.e) (T.n (some (AV.b (decide (aa i < (4 : Int))))) T.e T.e))))) (T.n (some (AV.i IntKind.i64 keep)) (T.n none (T.n none (T.n none (T.n none (T.n (some (AV.b (decide ((0 :
  Int) ≤ k)))) T.e T.e) T.e) (T.n (some (AV.p 0 0)) (T.n (some (AV.b (decide (SS.wrE s (aa i) 64 = (13 : Int))))) T.e T.e) T.e)) (T.n none (T.n none (T.n (some (AV.b (SS.off (SS.wrS
  s (aa i) 64 (fB (wrapA IntKind.u8 (Int.ofNat i + (1 : Int)))))))) T.e T.e) T.e) (T.n (some (AV.b (decide ((0 : Int) ≤ aa i)))) T.e T.e))) (T.n (some (AV.i IntKind.i64 (SS.wrE s
  (aa i) 64))) (T.n none (T.n none (T.n (some (AV.i IntKind.i64 k)) T.e T.e) T.e) (T.n (some (AV.i IntKind.u8 (wrapA IntKind.u8 (Int.ofNat i + (1 : Int))))) T.e T.e)) (T.n none (T.n
  (some (AV.b (decide (Int.ofNat i < Int.ofNat L)))) (T.n (some (AV.b (SS.off (SS.wrS s (aa i) 64 (fB (wrapA IntKind.u8 (Int.ofNat i + (1 : Int)))))))) T.e T.e) T.e) (T.n (some
  (AV.b (decide (aa i < (4 : Int))))) T.e T.e)))) (T.n (some (AV.b false)) (T.n (some (AV.i IntKind.i64 (Int.ofNat i))) (T.n none (T.n none (T.n (some (AV.b (decide ((0 : Int) ≤
  k)))) T.e T.e) T.e) (T.n (some (AV.i IntKind.i64 (Int.ofNat i))) (T.n (some (AV.b !SS.off (SS.wrS s (aa i) 64 (fB (wrapA IntKind.u8 (Int.ofNat i + (1 : Int))))) == decide (SS.wrE
  s (aa i) 64 = (13 : Int)))) T.e T.e) T.e)) (T.n none (T.n (some (AV.i IntKind.i64 (Int.ofNat L))) (T.n (some (AV.b (decide (Int.ofNat tk = k)))) T.e T.e) T.e) (T.n (some (AV.i
  IntKind.i64 (aa i))) T.e T.e))) (T.n (some (AV.b (decide (Int.ofNat tk = k)))) (T.n none (T.n none (T.n (some (AV.b (decide (Int.ofNat tk = k)))) T.e T.e) T.e) (T.n (some (AV.i
  IntKind.i64 (SS.wrE s (aa i) 64))) T.e T.e)) (T.n none (T.n (some (AV.pv 1 fun c => CV.i IntKind.i64 (aa i))) (T.n (some (AV.i IntKind.i64 (SS.wrE s (aa i) 64))) T.e T.e) T.e)
  (T.n (some (AV.b (decide (aa i < (4 : Int))))) T.e T.e)))))) { tree := T.n (some (AObj.segs 73 33799 [{ st := 0, sz := 1, n := 1, f := oneF (CV.i IntKind.i64 (Int.ofNat (SS.n (SS.wrS s (aa i) 64 (fB (wrapA IntKind.u8 (Int.ofNat i + (1 : Int)))))))) }, { st := 1, sz := 65, n := 512, f := durF (SS.dur (SS.wrS s (aa i) 64 (fB (wrapA IntKind.u8 (Int.ofNat i + (1 : Int)))))) (SS.torn (SS.wrS s (aa i) 64 (fB (wrapA IntKind.u8 (Int.ofNat i + (1 : Int)))))) }, { st := 33281, sz := 1, n := 1, f := oneF (CV.opv (pB (SS.P (SS.wrS s (aa i) 64 (fB (wrapA IntKind.u8 (Int.ofNat i + (1 : Int))))))) 66 (pW (SS.P (SS.wrS s (aa i) 64 (fB (wrapA IntKind.u8 (Int.ofNat i + (1 : Int)))))))) }, { st := 33282, sz := 1, n := 512, f := latF (lB (SS.P (SS.wrS s (aa i) 64 (fB (wrapA IntKind.u8 (Int.ofNat i + (1 : Int))))))) (lW (SS.P (SS.wrS s (aa i) 64 (fB (wrapA IntKind.u8 (Int.ofNat i + (1 : Int))))))) }, { st := 33794, sz := 5, n := 1, f := tailF (Int.ofNat (List.length (SS.P (SS.wrS s (aa i) 64 (fB (wrapA IntKind.u8 (Int.ofNat i + (1 : Int)))))))) (Int.ofNat (SS.wr (SS.wrS s (aa i) 64 (fB (wrapA IntKind.u8 (Int.ofNat i + (1 : Int))))))) (SS.off (SS.wrS s (aa i) 64 (fB (wrapA IntKind.u8 (Int.ofNat i + (1 : Int)))))) (SS.armed (SS.wrS s (aa i) 64 (fB (wrapA IntKind.u8 (Int.ofNat i + (1 : Int)))))) (Int.ofNat (SS.left (SS.wrS s (aa i) 64 (fB (wrapA IntKind.u8 (Int.ofNat i + (1 : Int))))))) }])) (T.n (some (AObj.rows 5 1 64 (fF (wrapA IntKind.u8 (Int.ofNat i + (1 : Int)))))) T.e T.e) T.e, next := 2, log := [0, 1] })
  Orc.z) ∧ ((!SS.off (SS.wrS s (aa i) 64 (fB (wrapA IntKind.u8 (Int.ofNat i + (1 : Int))))) == decide (SS.wrE s (aa i) 64 = (13 : Int))) = false → decide (Int.ofNat tk = k) = false
  ∧ True ∧ ((!!decide (aa i < (4 : Int)) == decide (SS.wrE s (aa i) 64 = (0 : Int))) = true → (!!decide (aa i < (4 : Int)) == decide (SS.wrE s (aa i) 64 = (0 : Int))) = true ∧ True
  ∧ (!!decide (aa i < (4 : Int)) == decide (SS.wrE s (aa i) 64 = (0 : Int))) = true ∧ (!decide (aa i < (4 : Int))) = false ∧ (!decide (aa i < (4 : Int))) = false ∧ (!!decide (aa i <
  (4 : Int)) == decide (SS.wrE s (aa i) 64 = (0 : Int))) = true ∧ (!decide (aa i < (4 : Int))) = false ∧ (!decide (aa i < (4 : Int)) == decide (SS.wrE s (aa i) 64 = (0 : Int))) =
  false ∧ decide (aa i < (4 : Int)) = true ∧ ((-9223372036854775808 : Int) ≤ Int.ofNat tk + (1 : Int) ∧ Int.ofNat tk + (1 : Int) ≤ (9223372036854775807 : Int)) ∧
  ((-9223372036854775808 : Int) ≤ Int.ofNat i + (1 : Int) ∧ Int.ofNat i + (1 : Int) ≤ (9223372036854775807 : Int)) ∧ K (Res.st XO.nrm (T.n (some (AV.i IntKind.i64 k)) (T.n none (T.n
  none (T.n (some (AV.p 0 0)) (T.n none (T.n none (T.n (some (AV.i IntKind.i64 k)) (T.n (some (AV.b (decide (aa i < (4 : Int))))) T.e T.e) T.e) T.e) (T.n (some (AV.i IntKind.i64 (aa
  i))) (T.n (some (AV.b (decide (SS.wrE s (aa i) 64 = (13 : Int))))) T.e T.e) T.e)) (T.n none (T.n none (T.n (some (AV.p 0 0)) T.e T.e) T.e) (T.n (some (AV.i IntKind.i64 (aa i)))
  T.e (T.n (some (AV.b !decide (aa i < (4 : Int)) == decide (SS.wrE s (aa i) 64 = (0 : Int)))) T.e T.e)))) (T.n (some (AV.i IntKind.i64 (aa i))) (T.n none (T.n none (T.n (some (AV.i
  IntKind.i64 (Int.ofNat tk))) T.e T.e) T.e) (T.n (some (AV.i IntKind.i64 (Int.ofNat i + (1 : Int)))) (T.n (some (AV.b (decide (Int.ofNat tk = k)))) T.e T.e) (T.n (some (AV.b
  (decide (aa i < (4 : Int))))) T.e T.e))) (T.n none (T.n (some (AV.i IntKind.i64 (Int.ofNat i + (1 : Int)))) (T.n (some (AV.p 0 0)) T.e T.e) T.e) (T.n (some (AV.b (decide (aa i <
  (4 : Int))))) T.e (T.n (some (AV.tup [])) T.e T.e))))) (T.n none (T.n (some (AV.i IntKind.i64 (Int.ofNat tk + (1 : Int)))) (T.n none (T.n none (T.n (some (AV.b (decide ((0 : Int)
  ≤ k)))) (T.n (some (AV.i IntKind.i64 (Int.ofNat tk + (1 : Int)))) T.e T.e) T.e) T.e) (T.n (some (AV.i IntKind.i64 (aa i))) (T.n (some (AV.b (decide (SS.wrE s (aa i) 64 = (13 :
  Int))))) T.e T.e) T.e)) (T.n none (T.n (some (AV.sv 1 L fun i x => CV.i IntKind.i64 (aa i))) (T.n (some (AV.b (decide (Int.ofNat tk = k)))) T.e T.e) T.e) (T.n (some (AV.b (decide
  ((0 : Int) ≤ aa i)))) T.e (T.n (some (AV.b !decide (aa i < (4 : Int)))) T.e T.e)))) (T.n (some (AV.b (decide (aa i < (4 : Int))))) (T.n none (T.n none (T.n (some (AV.b (decide
  (Int.ofNat tk = k)))) T.e T.e) T.e) (T.n (some (AV.lr 1 1 0 64 false)) T.e (T.n (some (AV.b (decide (SS.wrE s (aa i) 64 = (0 : Int))))) T.e T.e))) (T.n none (T.n (some (AV.i
  IntKind.i64 (Int.ofNat i))) (T.n (some (AV.b (SS.off (SS.wrS s (aa i) 64 (fB (wrapA IntKind.u8 (Int.ofNat i + (1 : Int)))))))) T.e T.e) T.e) (T.n (some (AV.b (decide (aa i < (4 :
  Int))))) T.e (T.n (some (AV.b false)) T.e T.e)))))) (T.n (some (AV.i IntKind.i64 keep)) (T.n none (T.n none (T.n none (T.n none (T.n (some (AV.b (decide ((0 : Int) ≤ k)))) (T.n
  (some (AV.i IntKind.i64 (Int.ofNat tk))) T.e T.e) T.e) T.e) (T.n (some (AV.p 0 0)) (T.n (some (AV.b (decide (SS.wrE s (aa i) 64 = (13 : Int))))) T.e T.e) T.e)) (T.n none (T.n none
  (T.n (some (AV.b (SS.off (SS.wrS s (aa i) 64 (fB (wrapA IntKind.u8 (Int.ofNat i + (1 : Int)))))))) T.e T.e) T.e) (T.n (some (AV.b (decide ((0 : Int) ≤ aa i)))) T.e (T.n (some
  (AV.b (decide (aa i < (4 : Int))))) T.e T.e)))) (T.n (some (AV.i IntKind.i64 (SS.wrE s (aa i) 64))) (T.n none (T.n none (T.n (some (AV.i IntKind.i64 k)) T.e T.e) T.e) (T.n (some
  (AV.i IntKind.u8 (wrapA IntKind.u8 (Int.ofNat i + (1 : Int))))) T.e (T.n (some (AV.i IntKind.i64 (SS.wrE s (aa i) 64))) T.e T.e))) (T.n none (T.n (some (AV.b (decide (Int.ofNat i
  < Int.ofNat L)))) (T.n (some (AV.b (SS.off (SS.wrS s (aa i) 64 (fB (wrapA IntKind.u8 (Int.ofNat i + (1 : Int)))))))) T.e T.e) T.e) (T.n (some (AV.b (decide (aa i < (4 : Int)))))
  T.e (T.n (some (AV.tup [])) T.e T.e))))) (T.n none (T.n (some (AV.i IntKind.i64 (Int.ofNat i))) (T.n none (T.n none (T.n (some (AV.b (decide ((0 : Int) ≤ k)))) (T.n (some (AV.i
  IntKind.i64 (Int.ofNat i + (1 : Int)))) T.e T.e) T.e) T.e) (T.n (some (AV.i IntKind.i64 (Int.ofNat i))) (T.n (some (AV.b !SS.off (SS.wrS s (aa i) 64 (fB (wrapA IntKind.u8
  (Int.ofNat i + (1 : Int))))) == decide (SS.wrE s (aa i) 64 = (13 : Int)))) T.e T.e) T.e)) (T.n none (T.n (some (AV.i IntKind.i64 (Int.ofNat L))) (T.n (some (AV.b (decide
  (Int.ofNat tk = k)))) T.e T.e) T.e) (T.n (some (AV.i IntKind.i64 (aa i))) T.e (T.n (some (AV.b !decide (aa i < (4 : Int)))) T.e T.e)))) (T.n (some (AV.b (decide (Int.ofNat tk =
  k)))) (T.n none (T.n none (T.n (some (AV.b (decide (Int.ofNat tk = k)))) T.e T.e) T.e) (T.n (some (AV.i IntKind.i64 (SS.wrE s (aa i) 64))) T.e (T.n (some (AV.b !decide (aa i < (4
  : Int)) == decide (SS.wrE s (aa i) 64 = (0 : Int)))) T.e T.e))) (T.n none (T.n (some (AV.pv 1 fun c => CV.i IntKind.i64 (aa i))) (T.n (some (AV.i IntKind.i64 (SS.wrE s (aa i)
  64))) T.e T.e) T.e) (T.n (some (AV.b (decide (aa i < (4 : Int))))) T.e (T.n (some (AV.b false)) T.e T.e))))))) { tree := T.n (some (AObj.segs 73 33799 [{ st := 0, sz := 1, n := 1, f := oneF (CV.i IntKind.i64 (Int.ofNat (SS.n (SS.wrS s (aa i) 64 (fB (wrapA IntKind.u8 (Int.ofNat i + (1 : Int)))))))) }, { st := 1, sz := 65, n := 512, f := durF (SS.dur (SS.wrS s (aa i) 64 (fB (wrapA IntKind.u8 (Int.ofNat i + (1 : Int)))))) (SS.torn (SS.wrS s (aa i) 64 (fB (wrapA IntKind.u8 (Int.ofNat i + (1 : Int)))))) }, { st := 33281, sz := 1, n := 1, f := oneF (CV.opv (pB (SS.P (SS.wrS s (aa i) 64 (fB (wrapA IntKind.u8 (Int.ofNat i + (1 : Int))))))) 66 (pW (SS.P (SS.wrS s (aa i) 64 (fB (wrapA IntKind.u8 (Int.ofNat i + (1 : Int)))))))) }, { st := 33282, sz := 1, n := 512, f := latF (lB (SS.P (SS.wrS s (aa i) 64 (fB (wrapA IntKind.u8 (Int.ofNat i + (1 : Int))))))) (lW (SS.P (SS.wrS s (aa i) 64 (fB (wrapA IntKind.u8 (Int.ofNat i + (1 : Int))))))) }, { st := 33794, sz := 5, n := 1, f := tailF (Int.ofNat (List.length (SS.P (SS.wrS s (aa i) 64 (fB (wrapA IntKind.u8 (Int.ofNat i + (1 : Int)))))))) (Int.ofNat (SS.wr (SS.wrS s (aa i) 64 (fB (wrapA IntKind.u8 (Int.ofNat i + (1 : Int))))))) (SS.off (SS.wrS s (aa i) 64 (fB (wrapA IntKind.u8 (Int.ofNat i + (1 : Int)))))) (SS.armed (SS.wrS s (aa i) 64 (fB (wrapA IntKind.u8 (Int.ofNat i + (1 : Int)))))) (Int.ofNat (SS.left (SS.wrS s (aa i) 64 (fB (wrapA IntKind.u8 (Int.ofNat i + (1 : Int))))))) }])) (T.n (some (AObj.rows 5 1 64 (fF (wrapA IntKind.u8 (Int.ofNat i + (1 : Int)))))) T.e T.e) T.e, next := 2, log := [0, 1] })
  Orc.z) ∧ ((!!decide (aa i < (4 : Int)) == decide (SS.wrE s (aa i) 64 = (0 : Int))) = false → (!!decide (aa i < (4 : Int)) == decide (SS.wrE s (aa i) 64 = (0 : Int))) = false ∧
  (!!decide (aa i < (4 : Int)) == decide (SS.wrE s (aa i) 64 = (0 : Int))) = false ∧ (!!decide (aa i < (4 : Int)) == decide (SS.wrE s (aa i) 64 = (0 : Int))) = false ∧ (!decide (aa
  i < (4 : Int)) == decide (SS.wrE s (aa i) 64 = (0 : Int))) = true ∧ K (Res.st XO.ret (T.n (some (AV.i IntKind.i64 k)) (T.n none (T.n none (T.n (some (AV.p 0 0)) (T.n none (T.n
  none (T.n (some (AV.i IntKind.i64 k)) T.e T.e) T.e) (T.n (some (AV.i IntKind.i64 (aa i))) (T.n (some (AV.b (decide (SS.wrE s (aa i) 64 = (13 : Int))))) T.e T.e) T.e)) (T.n none
  (T.n none (T.n (some (AV.p 0 0)) T.e T.e) T.e) (T.n (some (AV.i IntKind.i64 (aa i))) T.e (T.n (some (AV.b !decide (aa i < (4 : Int)) == decide (SS.wrE s (aa i) 64 = (0 : Int))))
  T.e T.e)))) (T.n (some (AV.i IntKind.i64 (aa i))) (T.n none (T.n none (T.n (some (AV.i IntKind.i64 (Int.ofNat tk))) T.e T.e) T.e) (T.n (some (AV.i IntKind.i64 (Int.ofNat i + (1 :
  Int)))) (T.n (some (AV.b (decide (Int.ofNat tk = k)))) T.e T.e) (T.n (some (AV.b (decide (aa i < (4 : Int))))) T.e T.e))) (T.n none (T.n (some (AV.i IntKind.i64 (Int.ofNat i)))
  (T.n (some (AV.p 0 0)) T.e T.e) T.e) (T.n (some (AV.b (decide (aa i < (4 : Int))))) T.e (T.n (some (AV.tup [])) T.e T.e))))) (T.n none (T.n (some (AV.i IntKind.i64 (Int.ofNat
  tk))) (T.n none (T.n none (T.n (some (AV.b (decide ((0 : Int) ≤ k)))) T.e T.e) T.e) (T.n (some (AV.i IntKind.i64 (aa i))) (T.n (some (AV.b (decide (SS.wrE s (aa i) 64 = (13 :
  Int))))) T.e T.e) T.e)) (T.n none (T.n (some (AV.sv 1 L fun i x => CV.i IntKind.i64 (aa i))) (T.n (some (AV.b (decide (Int.ofNat tk = k)))) T.e T.e) T.e) (T.n (some (AV.b (decide
  ((0 : Int) ≤ aa i)))) T.e (T.n (some (AV.tup [])) T.e T.e)))) (T.n (some (AV.b (decide (aa i < (4 : Int))))) (T.n none (T.n none (T.n (some (AV.b (decide (Int.ofNat tk = k)))) T.e
  T.e) T.e) (T.n (some (AV.lr 1 1 0 64 false)) T.e (T.n (some (AV.b (decide (SS.wrE s (aa i) 64 = (0 : Int))))) T.e T.e))) (T.n none (T.n (some (AV.i IntKind.i64 (Int.ofNat i)))
  (T.n (some (AV.b (SS.off (SS.wrS s (aa i) 64 (fB (wrapA IntKind.u8 (Int.ofNat i + (1 : Int)))))))) T.e T.e) T.e) (T.n (some (AV.b (decide (aa i < (4 : Int))))) T.e (T.n (some
  (AV.tup [])) T.e T.e)))))) (T.n (some (AV.i IntKind.i64 keep)) (T.n none (T.n none (T.n none (T.n none (T.n (some (AV.b (decide ((0 : Int) ≤ k)))) T.e T.e) T.e) (T.n (some (AV.p 0
  0)) (T.n (some (AV.b (decide (SS.wrE s (aa i) 64 = (13 : Int))))) T.e T.e) T.e)) (T.n none (T.n none (T.n (some (AV.b (SS.off (SS.wrS s (aa i) 64 (fB (wrapA IntKind.u8 (Int.ofNat
  i + (1 : Int)))))))) T.e T.e) T.e) (T.n (some (AV.b (decide ((0 : Int) ≤ aa i)))) T.e (T.n (some (AV.tup [])) T.e T.e)))) (T.n (some (AV.i IntKind.i64 (SS.wrE s (aa i) 64))) (T.n
  none (T.n none (T.n (some (AV.i IntKind.i64 k)) T.e T.e) T.e) (T.n (some (AV.i IntKind.u8 (wrapA IntKind.u8 (Int.ofNat i + (1 : Int))))) T.e (T.n (some (AV.i IntKind.i64 (SS.wrE s
  (aa i) 64))) T.e T.e))) (T.n none (T.n (some (AV.b (decide (Int.ofNat i < Int.ofNat L)))) (T.n (some (AV.b (SS.off (SS.wrS s (aa i) 64 (fB (wrapA IntKind.u8 (Int.ofNat i + (1 :
  Int)))))))) T.e T.e) T.e) (T.n (some (AV.b (decide (aa i < (4 : Int))))) T.e (T.n (some (AV.tup [])) T.e T.e))))) (T.n (some (AV.b false)) (T.n (some (AV.i IntKind.i64 (Int.ofNat
  i))) (T.n none (T.n none (T.n (some (AV.b (decide ((0 : Int) ≤ k)))) T.e T.e) T.e) (T.n (some (AV.i IntKind.i64 (Int.ofNat i))) (T.n (some (AV.b !SS.off (SS.wrS s (aa i) 64 (fB
  (wrapA IntKind.u8 (Int.ofNat i + (1 : Int))))) == decide (SS.wrE s (aa i) 64 = (13 : Int)))) T.e T.e) T.e)) (T.n none (T.n (some (AV.i IntKind.i64 (Int.ofNat L))) (T.n (some (AV.b
  (decide (Int.ofNat tk = k)))) T.e T.e) T.e) (T.n (some (AV.i IntKind.i64 (aa i))) T.e (T.n (some (AV.tup [])) T.e T.e)))) (T.n (some (AV.b (decide (Int.ofNat tk = k)))) (T.n none
  (T.n none (T.n (some (AV.b (decide (Int.ofNat tk = k)))) T.e T.e) T.e) (T.n (some (AV.i IntKind.i64 (SS.wrE s (aa i) 64))) T.e (T.n (some (AV.b !decide (aa i < (4 : Int)) ==
  decide (SS.wrE s (aa i) 64 = (0 : Int)))) T.e T.e))) (T.n none (T.n (some (AV.pv 1 fun c => CV.i IntKind.i64 (aa i))) (T.n (some (AV.i IntKind.i64 (SS.wrE s (aa i) 64))) T.e T.e)
  T.e) (T.n (some (AV.b (decide (aa i < (4 : Int))))) T.e (T.n (some (AV.b true)) T.e T.e))))))) { tree := T.n (some (AObj.segs 73 33799 [{ st := 0, sz := 1, n := 1, f := oneF (CV.i IntKind.i64 (Int.ofNat (SS.n (SS.wrS s (aa i) 64 (fB (wrapA IntKind.u8 (Int.ofNat i + (1 : Int)))))))) }, { st := 1, sz := 65, n := 512, f := durF (SS.dur (SS.wrS s (aa i) 64 (fB (wrapA IntKind.u8 (Int.ofNat i + (1 : Int)))))) (SS.torn (SS.wrS s (aa i) 64 (fB (wrapA IntKind.u8 (Int.ofNat i + (1 : Int)))))) }, { st := 33281, sz := 1, n := 1, f := oneF (CV.opv (pB (SS.P (SS.wrS s (aa i) 64 (fB (wrapA IntKind.u8 (Int.ofNat i + (1 : Int))))))) 66 (pW (SS.P (SS.wrS s (aa i) 64 (fB (wrapA IntKind.u8 (Int.ofNat i + (1 : Int)))))))) }, { st := 33282, sz := 1, n := 512, f := latF (lB (SS.P (SS.wrS s (aa i) 64 (fB (wrapA IntKind.u8 (Int.ofNat i + (1 : Int))))))) (lW (SS.P (SS.wrS s (aa i) 64 (fB (wrapA IntKind.u8 (Int.ofNat i + (1 : Int))))))) }, { st := 33794, sz := 5, n := 1, f := tailF (Int.ofNat (List.length (SS.P (SS.wrS s (aa i) 64 (fB (wrapA IntKind.u8 (Int.ofNat i + (1 : Int)))))))) (Int.ofNat (SS.wr (SS.wrS s (aa i) 64 (fB (wrapA IntKind.u8 (Int.ofNat i + (1 : Int))))))) (SS.off (SS.wrS s (aa i) 64 (fB (wrapA IntKind.u8 (Int.ofNat i + (1 : Int)))))) (SS.armed (SS.wrS s (aa i) 64 (fB (wrapA IntKind.u8 (Int.ofNat i + (1 : Int)))))) (Int.ofNat (SS.left (SS.wrS s (aa i) 64 (fB (wrapA IntKind.u8 (Int.ofNat i + (1 : Int))))))) }])) (T.n (some (AObj.rows 5 1 64 (fF (wrapA IntKind.u8 (Int.ofNat i + (1 : Int)))))) T.e T.e) T.e, next := 2, log := [0, 1] })
  Orc.z))) ∧ (SS.off (SS.wrS s (aa i) 64 (fB (wrapA IntKind.u8 (Int.ofNat i + (1 : Int))))) = false → SS.off (SS.wrS s (aa i) 64 (fB (wrapA IntKind.u8 (Int.ofNat i + (1 : Int))))) =
  false ∧ (!decide (Int.ofNat tk = k)) = true ∧ SS.off (SS.wrS s (aa i) 64 (fB (wrapA IntKind.u8 (Int.ofNat i + (1 : Int))))) = false ∧ decide (Int.ofNat tk = k) = false ∧ True ∧
  (!SS.off (SS.wrS s (aa i) 64 (fB (wrapA IntKind.u8 (Int.ofNat i + (1 : Int))))) == false) = false ∧ decide (Int.ofNat tk = k) = false ∧ True ∧ ((!!decide (aa i < (4 : Int)) ==
  decide (SS.wrE s (aa i) 64 = (0 : Int))) = true → (!!decide (aa i < (4 : Int)) == decide (SS.wrE s (aa i) 64 = (0 : Int))) = true ∧ True ∧ (!!decide (aa i < (4 : Int)) == decide
  (SS.wrE s (aa i) 64 = (0 : Int))) = true ∧ (!decide (aa i < (4 : Int))) = false ∧ (!decide (aa i < (4 : Int))) = false ∧ (!!decide (aa i < (4 : Int)) == decide (SS.wrE s (aa i) 64
  = (0 : Int))) = true ∧ (!decide (aa i < (4 : Int))) = false ∧ (!decide (aa i < (4 : Int)) == decide (SS.wrE s (aa i) 64 = (0 : Int))) = false ∧ decide (aa i < (4 : Int)) = true ∧
  ((-9223372036854775808 : Int) ≤ Int.ofNat tk + (1 : Int) ∧ Int.ofNat tk + (1 : Int) ≤ (9223372036854775807 : Int)) ∧ ((-9223372036854775808 : Int) ≤ Int.ofNat i + (1 : Int) ∧
  Int.ofNat i + (1 : Int) ≤ (9223372036854775807 : Int)) ∧ K (Res.st XO.nrm (T.n (some (AV.i IntKind.i64 k)) (T.n none (T.n none (T.n (some (AV.p 0 0)) (T.n none (T.n none (T.n
  (some (AV.i IntKind.i64 k)) (T.n (some (AV.b (decide (aa i < (4 : Int))))) T.e T.e) T.e) T.e) (T.n (some (AV.i IntKind.i64 (aa i))) (T.n (some (AV.tup [])) T.e T.e) T.e)) (T.n
  none (T.n none (T.n (some (AV.p 0 0)) T.e T.e) T.e) (T.n (some (AV.i IntKind.i64 (aa i))) T.e (T.n (some (AV.b !decide (aa i < (4 : Int)) == decide (SS.wrE s (aa i) 64 = (0 :
  Int)))) T.e T.e)))) (T.n (some (AV.i IntKind.i64 (aa i))) (T.n none (T.n none (T.n (some (AV.i IntKind.i64 (Int.ofNat tk))) T.e T.e) T.e) (T.n (some (AV.i IntKind.i64 (Int.ofNat i
  + (1 : Int)))) (T.n (some (AV.b (decide (Int.ofNat tk = k)))) T.e T.e) (T.n (some (AV.b (decide (aa i < (4 : Int))))) T.e T.e))) (T.n none (T.n (some (AV.i IntKind.i64 (Int.ofNat
  i + (1 : Int)))) (T.n (some (AV.p 0 0)) T.e T.e) T.e) (T.n (some (AV.b (decide (aa i < (4 : Int))))) T.e (T.n (some (AV.tup [])) T.e T.e))))) (T.n none (T.n (some (AV.i
  IntKind.i64 (Int.ofNat tk + (1 : Int)))) (T.n none (T.n none (T.n (some (AV.b (decide ((0 : Int) ≤ k)))) (T.n (some (AV.i IntKind.i64 (Int.ofNat tk + (1 : Int)))) T.e T.e) T.e)
  T.e) (T.n (some (AV.i IntKind.i64 (aa i))) (T.n (some (AV.b false)) T.e T.e) T.e)) (T.n none (T.n (some (AV.sv 1 L fun i x => CV.i IntKind.i64 (aa i))) (T.n (some (AV.b (decide
  (Int.ofNat tk = k)))) T.e T.e) T.e) (T.n (some (AV.b (decide ((0 : Int) ≤ aa i)))) T.e (T.n (some (AV.b !decide (aa i < (4 : Int)))) T.e T.e)))) (T.n (some (AV.b (decide (aa i <
  (4 : Int))))) (T.n none (T.n none (T.n (some (AV.b (decide (Int.ofNat tk = k)))) T.e T.e) T.e) (T.n (some (AV.lr 1 1 0 64 false)) T.e (T.n (some (AV.b (decide (SS.wrE s (aa i) 64
  = (0 : Int))))) T.e T.e))) (T.n none (T.n (some (AV.i IntKind.i64 (Int.ofNat i))) (T.n (some (AV.b (SS.off (SS.wrS s (aa i) 64 (fB (wrapA IntKind.u8 (Int.ofNat i + (1 :
  Int)))))))) T.e T.e) T.e) (T.n (some (AV.b (decide (aa i < (4 : Int))))) T.e (T.n (some (AV.b false)) T.e T.e)))))) (T.n (some (AV.i IntKind.i64 keep)) (T.n none (T.n none (T.n
  none (T.n none (T.n (some (AV.b (decide ((0 : Int) ≤ k)))) (T.n (some (AV.i IntKind.i64 (Int.ofNat tk))) T.e T.e) T.e) T.e) (T.n (some (AV.p 0 0)) (T.n (some (AV.b false)) T.e
  T.e) T.e)) (T.n none (T.n none (T.n (some (AV.b (SS.off (SS.wrS s (aa i) 64 (fB (wrapA IntKind.u8 (Int.ofNat i + (1 : Int)))))))) T.e T.e) T.e) (T.n (some (AV.b (decide ((0 : Int)
  ≤ aa i)))) T.e (T.n (some (AV.b (decide (aa i < (4 : Int))))) T.e T.e)))) (T.n (some (AV.i IntKind.i64 (SS.wrE s (aa i) 64))) (T.n none (T.n none (T.n (some (AV.i IntKind.i64 k))
  T.e T.e) T.e) (T.n (some (AV.i IntKind.u8 (wrapA IntKind.u8 (Int.ofNat i + (1 : Int))))) T.e (T.n (some (AV.i IntKind.i64 (SS.wrE s (aa i) 64))) T.e T.e))) (T.n none (T.n (some
  (AV.b (decide (Int.ofNat i < Int.ofNat L)))) (T.n (some (AV.b (SS.off (SS.wrS s (aa i) 64 (fB (wrapA IntKind.u8 (Int.ofNat i + (1 : Int)))))))) T.e T.e) T.e) (T.n (some (AV.b
  (decide (aa i < (4 : Int))))) T.e (T.n (some (AV.tup [])) T.e T.e))))) (T.n none (T.n (some (AV.i IntKind.i64 (Int.ofNat i))) (T.n none (T.n none (T.n (some (AV.b (decide ((0 :
  Int) ≤ k)))) (T.n (some (AV.i IntKind.i64 (Int.ofNat i + (1 : Int)))) T.e T.e) T.e) T.e) (T.n (some (AV.i IntKind.i64 (Int.ofNat i))) (T.n (some (AV.b !SS.off (SS.wrS s (aa i) 64
  (fB (wrapA IntKind.u8 (Int.ofNat i + (1 : Int))))) == false)) T.e T.e) T.e)) (T.n none (T.n (some (AV.i IntKind.i64 (Int.ofNat L))) (T.n (some (AV.b (decide (Int.ofNat tk = k))))
  T.e T.e) T.e) (T.n (some (AV.i IntKind.i64 (aa i))) T.e (T.n (some (AV.b !decide (aa i < (4 : Int)))) T.e T.e)))) (T.n (some (AV.b (decide (Int.ofNat tk = k)))) (T.n none (T.n
  none (T.n (some (AV.b (decide (Int.ofNat tk = k)))) T.e T.e) T.e) (T.n (some (AV.i IntKind.i64 (SS.wrE s (aa i) 64))) T.e (T.n (some (AV.b !decide (aa i < (4 : Int)) == decide
  (SS.wrE s (aa i) 64 = (0 : Int)))) T.e T.e))) (T.n none (T.n (some (AV.pv 1 fun c => CV.i IntKind.i64 (aa i))) (T.n (some (AV.tup [])) T.e T.e) T.e) (T.n (some (AV.b (decide (aa i
  < (4 : Int))))) T.e (T.n (some (AV.b false)) T.e T.e))))))) { tree := T.n (some (AObj.segs 73 33799 [{ st := 0, sz := 1, n := 1, f := oneF (CV.i IntKind.i64 (Int.ofNat (SS.n (SS.wrS s (aa i) 64 (fB (wrapA IntKind.u8 (Int.ofNat i + (1 : Int)))))))) }, { st := 1, sz := 65, n := 512, f := durF (SS.dur (SS.wrS s (aa i) 64 (fB (wrapA IntKind.u8 (Int.ofNat i + (1 : Int)))))) (SS.torn (SS.wrS s (aa i) 64 (fB (wrapA IntKind.u8 (Int.ofNat i + (1 : Int)))))) }, { st := 33281, sz := 1, n := 1, f := oneF (CV.opv (pB (SS.P (SS.wrS s (aa i) 64 (fB (wrapA IntKind.u8 (Int.ofNat i + (1 : Int))))))) 66 (pW (SS.P (SS.wrS s (aa i) 64 (fB (wrapA IntKind.u8 (Int.ofNat i + (1 : Int)))))))) }, { st := 33282, sz := 1, n := 512, f := latF (lB (SS.P (SS.wrS s (aa i) 64 (fB (wrapA IntKind.u8 (Int.ofNat i + (1 : Int))))))) (lW (SS.P (SS.wrS s (aa i) 64 (fB (wrapA IntKind.u8 (Int.ofNat i + (1 : Int))))))) }, { st := 33794, sz := 5, n := 1, f := tailF (Int.ofNat (List.length (SS.P (SS.wrS s (aa i) 64 (fB (wrapA IntKind.u8 (Int.ofNat i + (1 : Int)))))))) (Int.ofNat (SS.wr (SS.wrS s (aa i) 64 (fB (wrapA IntKind.u8 (Int.ofNat i + (1 : Int))))))) (SS.off (SS.wrS s (aa i) 64 (fB (wrapA IntKind.u8 (Int.ofNat i + (1 : Int)))))) (SS.armed (SS.wrS s (aa i) 64 (fB (wrapA IntKind.u8 (Int.ofNat i + (1 : Int)))))) (Int.ofNat (SS.left (SS.wrS s (aa i) 64 (fB (wrapA IntKind.u8 (Int.ofNat i + (1 : Int))))))) }])) (T.n (some (AObj.rows 5 1 64 (fF (wrapA IntKind.u8 (Int.ofNat i + (1 : Int)))))) T.e T.e) T.e, next := 2, log := [0, 1] })
  Orc.z) ∧ ((!!decide (aa i < (4 : Int)) == decide (SS.wrE s (aa i) 64 = (0 : Int))) = false → (!!decide (aa i < (4 : Int)) == decide (SS.wrE s (aa i) 64 = (0 : Int))) = false ∧
  (!!decide (aa i < (4 : Int)) == decide (SS.wrE s (aa i) 64 = (0 : Int))) = false ∧ (!!decide (aa i < (4 : Int)) == decide (SS.wrE s (aa i) 64 = (0 : Int))) = false ∧ (!decide (aa
  i < (4 : Int)) == decide (SS.wrE s (aa i) 64 = (0 : Int))) = true ∧ K (Res.st XO.ret (T.n (some (AV.i IntKind.i64 k)) (T.n none (T.n none (T.n (some (AV.p 0 0)) (T.n none (T.n
  none (T.n (some (AV.i IntKind.i64 k)) T.e T.e) T.e) (T.n (some (AV.i IntKind.i64 (aa i))) (T.n (some (AV.tup [])) T.e T.e) T.e)) (T.n none (T.n none (T.n (some (AV.p 0 0)) T.e
  T.e) T.e) (T.n (some (AV.i IntKind.i64 (aa i))) T.e (T.n (some (AV.b !decide (aa i < (4 : Int)) == decide (SS.wrE s (aa i) 64 = (0 : Int)))) T.e T.e)))) (T.n (some (AV.i
  IntKind.i64 (aa i))) (T.n none (T.n none (T.n (some (AV.i IntKind.i64 (Int.ofNat tk))) T.e T.e) T.e) (T.n (some (AV.i IntKind.i64 (Int.ofNat i + (1 : Int)))) (T.n (some (AV.b
  (decide (Int.ofNat tk = k)))) T.e T.e) (T.n (some (AV.b (decide (aa i < (4 : Int))))) T.e T.e))) (T.n none (T.n (some (AV.i IntKind.i64 (Int.ofNat i))) (T.n (some (AV.p 0 0)) T.e
  T.e) T.e) (T.n (some (AV.b (decide (aa i < (4 : Int))))) T.e (T.n (some (AV.tup [])) T.e T.e))))) (T.n none (T.n (some (AV.i IntKind.i64 (Int.ofNat tk))) (T.n none (T.n none (T.n
  (some (AV.b (decide ((0 : Int) ≤ k)))) T.e T.e) T.e) (T.n (some (AV.i IntKind.i64 (aa i))) (T.n (some (AV.b false)) T.e T.e) T.e)) (T.n none (T.n (some (AV.sv 1 L fun i x => CV.i
  IntKind.i64 (aa i))) (T.n (some (AV.b (decide (Int.ofNat tk = k)))) T.e T.e) T.e) (T.n (some (AV.b (decide ((0 : Int) ≤ aa i)))) T.e (T.n (some (AV.tup [])) T.e T.e)))) (T.n (some
  (AV.b (decide (aa i < (4 : Int))))) (T.n none (T.n none (T.n (some (AV.b (decide (Int.ofNat tk = k)))) T.e T.e) T.e) (T.n (some (AV.lr 1 1 0 64 false)) T.e (T.n (some (AV.b
  (decide (SS.wrE s (aa i) 64 = (0 : Int))))) T.e T.e))) (T.n none (T.n (some (AV.i IntKind.i64 (Int.ofNat i))) (T.n (some (AV.b (SS.off (SS.wrS s (aa i) 64 (fB (wrapA IntKind.u8
  (Int.ofNat i + (1 : Int)))))))) T.e T.e) T.e) (T.n (some (AV.b (decide (aa i < (4 : Int))))) T.e (T.n (some (AV.tup [])) T.e T.e)))))) (T.n (some (AV.i IntKind.i64 keep)) (T.n
  none (T.n none (T.n none (T.n none (T.n (some (AV.b (decide ((0 : Int) ≤ k)))) T.e T.e) T.e) (T.n (some (AV.p 0 0)) (T.n (some (AV.b false)) T.e T.e) T.e)) (T.n none (T.n none
  (T.n (some (AV.b (SS.off (SS.wrS s (aa i) 64 (fB (wrapA IntKind.u8 (Int.ofNat i + (1 : Int)))))))) T.e T.e) T.e) (T.n (some (AV.b (decide ((0 : Int) ≤ aa i)))) T.e (T.n (some
  (AV.tup [])) T.e T.e)))) (T.n (some (AV.i IntKind.i64 (SS.wrE s (aa i) 64))) (T.n none (T.n none (T.n (some (AV.i IntKind.i64 k)) T.e T.e) T.e) (T.n (some (AV.i IntKind.u8 (wrapA
  IntKind.u8 (Int.ofNat i + (1 : Int))))) T.e (T.n (some (AV.i IntKind.i64 (SS.wrE s (aa i) 64))) T.e T.e))) (T.n none (T.n (some (AV.b (decide (Int.ofNat i < Int.ofNat L)))) (T.n
  (some (AV.b (SS.off (SS.wrS s (aa i) 64 (fB (wrapA IntKind.u8 (Int.ofNat i + (1 : Int)))))))) T.e T.e) T.e) (T.n (some (AV.b (decide (aa i < (4 : Int))))) T.e (T.n (some (AV.tup
  [])) T.e T.e))))) (T.n (some (AV.b false)) (T.n (some (AV.i IntKind.i64 (Int.ofNat i))) (T.n none (T.n none (T.n (some (AV.b (decide ((0 : Int) ≤ k)))) T.e T.e) T.e) (T.n (some
  (AV.i IntKind.i64 (Int.ofNat i))) (T.n (some (AV.b !SS.off (SS.wrS s (aa i) 64 (fB (wrapA IntKind.u8 (Int.ofNat i + (1 : Int))))) == false)) T.e T.e) T.e)) (T.n none (T.n (some
  (AV.i IntKind.i64 (Int.ofNat L))) (T.n (some (AV.b (decide (Int.ofNat tk = k)))) T.e T.e) T.e) (T.n (some (AV.i IntKind.i64 (aa i))) T.e (T.n (some (AV.tup [])) T.e T.e)))) (T.n
  (some (AV.b (decide (Int.ofNat tk = k)))) (T.n none (T.n none (T.n (some (AV.b (decide (Int.ofNat tk = k)))) T.e T.e) T.e) (T.n (some (AV.i IntKind.i64 (SS.wrE s (aa i) 64))) T.e
  (T.n (some (AV.b !decide (aa i < (4 : Int)) == decide (SS.wrE s (aa i) 64 = (0 : Int)))) T.e T.e))) (T.n none (T.n (some (AV.pv 1 fun c => CV.i IntKind.i64 (aa i))) (T.n (some
  (AV.tup [])) T.e T.e) T.e) (T.n (some (AV.b (decide (aa i < (4 : Int))))) T.e (T.n (some (AV.b true)) T.e T.e))))))) { tree := T.n (some (AObj.segs 73 33799 [{ st := 0, sz := 1, n := 1, f := oneF (CV.i IntKind.i64 (Int.ofNat (SS.n (SS.wrS s (aa i) 64 (fB (wrapA IntKind.u8 (Int.ofNat i + (1 : Int)))))))) }, { st := 1, sz := 65, n := 512, f := durF (SS.dur (SS.wrS s (aa i) 64 (fB (wrapA IntKind.u8 (Int.ofNat i + (1 : Int)))))) (SS.torn (SS.wrS s (aa i) 64 (fB (wrapA IntKind.u8 (Int.ofNat i + (1 : Int)))))) }, { st := 33281, sz := 1, n := 1, f := oneF (CV.opv (pB (SS.P (SS.wrS s (aa i) 64 (fB (wrapA IntKind.u8 (Int.ofNat i + (1 : Int))))))) 66 (pW (SS.P (SS.wrS s (aa i) 64 (fB (wrapA IntKind.u8 (Int.ofNat i + (1 : Int)))))))) }, { st := 33282, sz := 1, n := 512, f := latF (lB (SS.P (SS.wrS s (aa i) 64 (fB (wrapA IntKind.u8 (Int.ofNat i + (1 : Int))))))) (lW (SS.P (SS.wrS s (aa i) 64 (fB (wrapA IntKind.u8 (Int.ofNat i + (1 : Int))))))) }, { st := 33794, sz := 5, n := 1, f := tailF (Int.ofNat (List.length (SS.P (SS.wrS s (aa i) 64 (fB (wrapA IntKind.u8 (Int.ofNat i + (1 : Int)))))))) (Int.ofNat (SS.wr (SS.wrS s (aa i) 64 (fB (wrapA IntKind.u8 (Int.ofNat i + (1 : Int))))))) (SS.off (SS.wrS s (aa i) 64 (fB (wrapA IntKind.u8 (Int.ofNat i + (1 : Int)))))) (SS.armed (SS.wrS s (aa i) 64 (fB (wrapA IntKind.u8 (Int.ofNat i + (1 : Int)))))) (Int.ofNat (SS.left (SS.wrS s (aa i) 64 (fB (wrapA IntKind.u8 (Int.ofNat i + (1 : Int))))))) }])) (T.n (some (AObj.rows 5 1 64 (fF (wrapA IntKind.u8 (Int.ofNat i + (1 : Int)))))) T.e T.e) T.e, next := 2, log := [0, 1] })
  Orc.z))) ∧ ((!decide (Int.ofNat tk = k)) = false → (!decide (Int.ofNat tk = k)) = false ∧ (!decide (Int.ofNat tk = k)) = false ∧ (!decide (Int.ofNat tk = k)) = false ∧ decide
  (Int.ofNat tk = k) = true ∧ True ∧ ((!SS.off (SS.wrS s (aa i) 64 (fB (wrapA IntKind.u8 (Int.ofNat i + (1 : Int))))) == true) = true → K (Res.st XO.ret (T.n (some (AV.i IntKind.i64
  k)) (T.n none (T.n none (T.n (some (AV.p 0 0)) (T.n none (T.n none (T.n (some (AV.i IntKind.i64 k)) T.e T.e) T.e) (T.n (some (AV.i IntKind.i64 (aa i))) (T.n (some (AV.tup [])) T.e
  T.e) T.e)) (T.n none (T.n none (T.n (some (AV.p 0 0)) T.e T.e) T.e) (T.n (some (AV.i IntKind.i64 (aa i))) T.e T.e))) (T.n (some (AV.i IntKind.i64 (aa i))) (T.n none (T.n none (T.n
  (some (AV.i IntKind.i64 (Int.ofNat tk))) T.e T.e) T.e) (T.n (some (AV.i IntKind.i64 (Int.ofNat i + (1 : Int)))) T.e T.e)) (T.n none (T.n (some (AV.i IntKind.i64 (Int.ofNat i)))
  (T.n (some (AV.tup [])) T.e T.e) T.e) (T.n (some (AV.b (decide (aa i < (4 : Int))))) T.e T.e)))) (T.n none (T.n (some (AV.i IntKind.i64 (Int.ofNat tk))) (T.n none (T.n none (T.n
  (some (AV.b (decide ((0 : Int) ≤ k)))) T.e T.e) T.e) (T.n (some (AV.i IntKind.i64 (aa i))) (T.n (some (AV.b true)) T.e T.e) T.e)) (T.n none (T.n (some (AV.sv 1 L fun i x => CV.i
  IntKind.i64 (aa i))) (T.n (some (AV.b (decide (Int.ofNat tk = k)))) T.e T.e) T.e) (T.n (some (AV.b (decide ((0 : Int) ≤ aa i)))) T.e T.e))) (T.n (some (AV.b (decide (aa i < (4 :
  Int))))) (T.n none (T.n none (T.n (some (AV.b (decide (Int.ofNat tk = k)))) T.e T.e) T.e) (T.n (some (AV.lr 1 1 0 64 false)) T.e T.e)) (T.n none (T.n (some (AV.i IntKind.i64
  (Int.ofNat i))) (T.n (some (AV.tup [])) T.e T.e) T.e) (T.n (some (AV.b (decide (aa i < (4 : Int))))) T.e T.e))))) (T.n (some (AV.i IntKind.i64 keep)) (T.n none (T.n none (T.n none
  (T.n none (T.n (some (AV.b (decide ((0 : Int) ≤ k)))) T.e T.e) T.e) (T.n (some (AV.p 0 0)) (T.n (some (AV.tup [])) T.e T.e) T.e)) (T.n none (T.n none (T.n (some (AV.b (SS.off
  (SS.wrS s (aa i) 64 (fB (wrapA IntKind.u8 (Int.ofNat i + (1 : Int)))))))) T.e T.e) T.e) (T.n (some (AV.b (decide ((0 : Int) ≤ aa i)))) T.e T.e))) (T.n (some (AV.i IntKind.i64
  (SS.wrE s (aa i) 64))) (T.n none (T.n none (T.n (some (AV.i IntKind.i64 k)) T.e T.e) T.e) (T.n (some (AV.i IntKind.u8 (wrapA IntKind.u8 (Int.ofNat i + (1 : Int))))) T.e T.e)) (T.n
  none (T.n (some (AV.b (decide (Int.ofNat i < Int.ofNat L)))) (T.n (some (AV.tup [])) T.e T.e) T.e) (T.n (some (AV.b (decide (aa i < (4 : Int))))) T.e T.e)))) (T.n (some (AV.b
  false)) (T.n (some (AV.i IntKind.i64 (Int.ofNat i))) (T.n none (T.n none (T.n (some (AV.b (decide ((0 : Int) ≤ k)))) T.e T.e) T.e) (T.n (some (AV.i IntKind.i64 (Int.ofNat i)))
  (T.n (some (AV.b !SS.off (SS.wrS s (aa i) 64 (fB (wrapA IntKind.u8 (Int.ofNat i + (1 : Int))))) == true)) T.e T.e) T.e)) (T.n none (T.n (some (AV.i IntKind.i64 (Int.ofNat L)))
  (T.n (some (AV.b (decide (Int.ofNat tk = k)))) T.e T.e) T.e) (T.n (some (AV.i IntKind.i64 (aa i))) T.e T.e))) (T.n (some (AV.b (decide (Int.ofNat tk = k)))) (T.n none (T.n none
  (T.n (some (AV.b (decide (Int.ofNat tk = k)))) T.e T.e) T.e) (T.n (some (AV.i IntKind.i64 (SS.wrE s (aa i) 64))) T.e T.e)) (T.n none (T.n (some (AV.pv 1 fun c => CV.i IntKind.i64
  (aa i))) (T.n (some (AV.tup [])) T.e T.e) T.e) (T.n (some (AV.b (decide (aa i < (4 : Int))))) T.e T.e)))))) { tree := T.n (some (AObj.segs 73 33799 [{ st := 0, sz := 1, n := 1, f := oneF (CV.i IntKind.i64 (Int.ofNat (SS.n (SS.wrS s (aa i) 64 (fB (wrapA IntKind.u8 (Int.ofNat i + (1 : Int)))))))) }, { st := 1, sz := 65, n := 512, f := durF (SS.dur (SS.wrS s (aa i) 64 (fB (wrapA IntKind.u8 (Int.ofNat i + (1 : Int)))))) (SS.torn (SS.wrS s (aa i) 64 (fB (wrapA IntKind.u8 (Int.ofNat i + (1 : Int)))))) }, { st := 33281, sz := 1, n := 1, f := oneF (CV.opv (pB (SS.P (SS.wrS s (aa i) 64 (fB (wrapA IntKind.u8 (Int.ofNat i + (1 : Int))))))) 66 (pW (SS.P (SS.wrS s (aa i) 64 (fB (wrapA IntKind.u8 (Int.ofNat i + (1 : Int)))))))) }, { st := 33282, sz := 1, n := 512, f := latF (lB (SS.P (SS.wrS s (aa i) 64 (fB (wrapA IntKind.u8 (Int.ofNat i + (1 : Int))))))) (lW (SS.P (SS.wrS s (aa i) 64 (fB (wrapA IntKind.u8 (Int.ofNat i + (1 : Int))))))) }, { st := 33794, sz := 5, n := 1, f := tailF (Int.ofNat (List.length (SS.P (SS.wrS s (aa i) 64 (fB (wrapA IntKind.u8 (Int.ofNat i + (1 : Int)))))))) (Int.ofNat (SS.wr (SS.wrS s (aa i) 64 (fB (wrapA IntKind.u8 (Int.ofNat i + (1 : Int))))))) (SS.off (SS.wrS s (aa i) 64 (fB (wrapA IntKind.u8 (Int.ofNat i + (1 : Int)))))) (SS.armed (SS.wrS s (aa i) 64 (fB (wrapA IntKind.u8 (Int.ofNat i + (1 : Int)))))) (Int.ofNat (SS.left (SS.wrS s (aa i) 64 (fB (wrapA IntKind.u8 (Int.ofNat i + (1 : Int))))))) }])) (T.n (some (AObj.rows 5 1 64 (fF (wrapA IntKind.u8 (Int.ofNat i + (1 : Int)))))) T.e T.e) T.e, next := 2, log := [0, 1] })
  Orc.z) ∧ ((!SS.off (SS.wrS s (aa i) 64 (fB (wrapA IntKind.u8 (Int.ofNat i + (1 : Int))))) == true) = false → decide (Int.ofNat tk = k) = true ∧ ((!!decide (SS.wrE s (aa i) 64 =
  (13 : Int))) = true → (!!decide (SS.wrE s (aa i) 64 = (13 : Int))) = true ∧ Con Try.prog 28 [AV.p 0 0] [some (SS.o (SS.wrS s (aa i) 64 (fB (wrapA IntKind.u8 (Int.ofNat i + (1 :
  Int))))))] (AV.i IntKind.i64 (Int.ofNat (List.length (SS.P (SS.wrS s (aa i) 64 (fB (wrapA IntKind.u8 (Int.ofNat i + (1 : Int))))))))) [Upd.keep] ∧ (!!decide (SS.wrE s (aa i) 64 =
  (13 : Int))) = true ∧ (!!decide (SS.wrE s (aa i) 64 = (13 : Int))) = true ∧ ((-9223372036854775808 : Int) ≤ Int.ofNat tk + (1 : Int) ∧ Int.ofNat tk + (1 : Int) ≤
  (9223372036854775807 : Int)) ∧ (!!decide (SS.wrE s (aa i) 64 = (13 : Int))) = true ∧ (!decide (SS.wrE s (aa i) 64 = (13 : Int))) = false ∧ ((!!decide (Int.ofNat (List.length (SS.P
  (SS.wrS s (aa i) 64 (fB (wrapA IntKind.u8 (Int.ofNat i + (1 : Int))))))) = Int.ofNat tk + (1 : Int))) = true → (!!decide (Int.ofNat (List.length (SS.P (SS.wrS s (aa i) 64 (fB
  (wrapA IntKind.u8 (Int.ofNat i + (1 : Int))))))) = Int.ofNat tk + (1 : Int))) = true ∧ Con Try.prog 30 [AV.p 0 0] [some (SS.o (SS.wrS s (aa i) 64 (fB (wrapA IntKind.u8 (Int.ofNat
  i + (1 : Int))))))] (AV.i IntKind.i64 (Int.ofNat (SS.wr (SS.wrS s (aa i) 64 (fB (wrapA IntKind.u8 (Int.ofNat i + (1 : Int)))))))) [Upd.keep] ∧ (!!decide (Int.ofNat (List.length
  (SS.P (SS.wrS s (aa i) 64 (fB (wrapA IntKind.u8 (Int.ofNat i + (1 : Int))))))) = Int.ofNat tk + (1 : Int))) = true ∧ (!!decide (Int.ofNat (List.length (SS.P (SS.wrS s (aa i) 64
  (fB (wrapA IntKind.u8 (Int.ofNat i + (1 : Int))))))) = Int.ofNat tk + (1 : Int))) = true ∧ ((-9223372036854775808 : Int) ≤ Int.ofNat tk + (1 : Int) ∧ Int.ofNat tk + (1 : Int) ≤
  (9223372036854775807 : Int)) ∧ (!!decide (Int.ofNat (List.length (SS.P (SS.wrS s (aa i) 64 (fB (wrapA IntKind.u8 (Int.ofNat i + (1 : Int))))))) = Int.ofNat tk + (1 : Int))) = true
  ∧ (!decide (Int.ofNat (List.length (SS.P (SS.wrS s (aa i) 64 (fB (wrapA IntKind.u8 (Int.ofNat i + (1 : Int))))))) = Int.ofNat tk + (1 : Int))) = false ∧ ((!decide (Int.ofNat
  (SS.wr (SS.wrS s (aa i) 64 (fB (wrapA IntKind.u8 (Int.ofNat i + (1 : Int)))))) = Int.ofNat tk + (1 : Int))) = true → K (Res.st XO.ret (T.n (some (AV.i IntKind.i64 k)) (T.n none
  (T.n none (T.n (some (AV.p 0 0)) (T.n none (T.n none (T.n (some (AV.i IntKind.i64 k)) T.e T.e) (T.n (some (AV.i IntKind.i64 (Int.ofNat (SS.wr (SS.wrS s (aa i) 64 (fB (wrapA
  IntKind.u8 (Int.ofNat i + (1 : Int))))))))) T.e T.e)) (T.n (some (AV.i IntKind.i64 (aa i))) (T.n (some (AV.tup [])) T.e T.e) T.e)) (T.n none (T.n none (T.n (some (AV.p 0 0)) T.e
  T.e) T.e) (T.n (some (AV.i IntKind.i64 (aa i))) (T.n (some (AV.p 0 0)) T.e T.e) T.e))) (T.n (some (AV.i IntKind.i64 (aa i))) (T.n none (T.n none (T.n (some (AV.i IntKind.i64
  (Int.ofNat tk))) T.e T.e) (T.n (some (AV.b !decide (Int.ofNat (SS.wr (SS.wrS s (aa i) 64 (fB (wrapA IntKind.u8 (Int.ofNat i + (1 : Int)))))) = Int.ofNat tk + (1 : Int)))) T.e
  T.e)) (T.n (some (AV.i IntKind.i64 (Int.ofNat i + (1 : Int)))) (T.n (some (AV.b (decide (Int.ofNat tk = k)))) T.e T.e) T.e)) (T.n none (T.n (some (AV.i IntKind.i64 (Int.ofNat i)))
  (T.n (some (AV.tup [])) T.e T.e) T.e) (T.n (some (AV.b (decide (aa i < (4 : Int))))) (T.n (some (AV.b !decide (Int.ofNat (List.length (SS.P (SS.wrS s (aa i) 64 (fB (wrapA
  IntKind.u8 (Int.ofNat i + (1 : Int))))))) = Int.ofNat tk + (1 : Int)))) T.e T.e) T.e)))) (T.n none (T.n (some (AV.i IntKind.i64 (Int.ofNat tk))) (T.n none (T.n none (T.n (some
  (AV.b (decide ((0 : Int) ≤ k)))) T.e T.e) (T.n (some (AV.i IntKind.i64 (Int.ofNat tk + (1 : Int)))) T.e T.e)) (T.n (some (AV.i IntKind.i64 (aa i))) (T.n (some (AV.b true)) T.e
  T.e) T.e)) (T.n none (T.n (some (AV.sv 1 L fun i x => CV.i IntKind.i64 (aa i))) (T.n (some (AV.b (decide (Int.ofNat tk = k)))) T.e T.e) T.e) (T.n (some (AV.b (decide ((0 : Int) ≤
  aa i)))) (T.n (some (AV.i IntKind.i64 (Int.ofNat tk))) T.e T.e) T.e))) (T.n (some (AV.b (decide (aa i < (4 : Int))))) (T.n none (T.n none (T.n (some (AV.b (decide (Int.ofNat tk =
  k)))) T.e T.e) T.e) (T.n (some (AV.lr 1 1 0 64 false)) (T.n (some (AV.b !decide (SS.wrE s (aa i) 64 = (13 : Int)))) T.e T.e) T.e)) (T.n none (T.n (some (AV.i IntKind.i64
  (Int.ofNat i))) (T.n (some (AV.tup [])) T.e T.e) T.e) (T.n (some (AV.b (decide (aa i < (4 : Int))))) (T.n (some (AV.b !decide (Int.ofNat (List.length (SS.P (SS.wrS s (aa i) 64 (fB
  (wrapA IntKind.u8 (Int.ofNat i + (1 : Int))))))) = Int.ofNat tk + (1 : Int)))) T.e T.e) T.e))))) (T.n (some (AV.i IntKind.i64 keep)) (T.n none (T.n none (T.n none (T.n none (T.n
  (some (AV.b (decide ((0 : Int) ≤ k)))) T.e T.e) (T.n (some (AV.i IntKind.i64 (Int.ofNat tk))) T.e T.e)) (T.n (some (AV.p 0 0)) (T.n (some (AV.tup [])) T.e T.e) T.e)) (T.n none
  (T.n none (T.n (some (AV.b (SS.off (SS.wrS s (aa i) 64 (fB (wrapA IntKind.u8 (Int.ofNat i + (1 : Int)))))))) T.e T.e) T.e) (T.n (some (AV.b (decide ((0 : Int) ≤ aa i)))) (T.n
  (some (AV.i IntKind.i64 (Int.ofNat (List.length (SS.P (SS.wrS s (aa i) 64 (fB (wrapA IntKind.u8 (Int.ofNat i + (1 : Int)))))))))) T.e T.e) T.e))) (T.n (some (AV.i IntKind.i64
  (SS.wrE s (aa i) 64))) (T.n none (T.n none (T.n (some (AV.i IntKind.i64 k)) T.e T.e) T.e) (T.n (some (AV.i IntKind.u8 (wrapA IntKind.u8 (Int.ofNat i + (1 : Int))))) (T.n (some
  (AV.i IntKind.i64 (SS.wrE s (aa i) 64))) T.e T.e) T.e)) (T.n none (T.n (some (AV.b (decide (Int.ofNat i < Int.ofNat L)))) (T.n (some (AV.tup [])) T.e T.e) T.e) (T.n (some (AV.b
  (decide (aa i < (4 : Int))))) (T.n (some (AV.b !decide (Int.ofNat (List.length (SS.P (SS.wrS s (aa i) 64 (fB (wrapA IntKind.u8 (Int.ofNat i + (1 : Int))))))) = Int.ofNat tk + (1 :
  Int)))) T.e T.e) T.e)))) (T.n (some (AV.b false)) (T.n (some (AV.i IntKind.i64 (Int.ofNat i))) (T.n none (T.n none (T.n (some (AV.b (decide ((0 : Int) ≤ k)))) T.e T.e) (T.n (some
  (AV.b !decide (Int.ofNat (SS.wr (SS.wrS s (aa i) 64 (fB (wrapA IntKind.u8 (Int.ofNat i + (1 : Int)))))) = Int.ofNat tk + (1 : Int)))) T.e T.e)) (T.n (some (AV.i IntKind.i64
  (Int.ofNat i))) (T.n (some (AV.b !SS.off (SS.wrS s (aa i) 64 (fB (wrapA IntKind.u8 (Int.ofNat i + (1 : Int))))) == true)) T.e T.e) T.e)) (T.n none (T.n (some (AV.i IntKind.i64
  (Int.ofNat L))) (T.n (some (AV.b (decide (Int.ofNat tk = k)))) T.e T.e) T.e) (T.n (some (AV.i IntKind.i64 (aa i))) (T.n (some (AV.i IntKind.i64 (Int.ofNat tk + (1 : Int)))) T.e
  T.e) T.e))) (T.n (some (AV.b (decide (Int.ofNat tk = k)))) (T.n none (T.n none (T.n (some (AV.b (decide (Int.ofNat tk = k)))) T.e T.e) T.e) (T.n (some (AV.i IntKind.i64 (SS.wrE s
  (aa i) 64))) (T.n (some (AV.b !decide (SS.wrE s (aa i) 64 = (13 : Int)))) T.e T.e) T.e)) (T.n none (T.n (some (AV.pv 1 fun c => CV.i IntKind.i64 (aa i))) (T.n (some (AV.tup []))
  T.e T.e) T.e) (T.n (some (AV.b (decide (aa i < (4 : Int))))) (T.n (some (AV.p 0 0)) T.e T.e) T.e)))))) { tree := T.n (some (AObj.segs 73 33799 [{ st := 0, sz := 1, n := 1, f := oneF (CV.i IntKind.i64 (Int.ofNat (SS.n (SS.wrS s (aa i) 64 (fB (wrapA IntKind.u8 (Int.ofNat i + (1 : Int)))))))) }, { st := 1, sz := 65, n := 512, f := durF (SS.dur (SS.wrS s (aa i) 64 (fB (wrapA IntKind.u8 (Int.ofNat i + (1 : Int)))))) (SS.torn (SS.wrS s (aa i) 64 (fB (wrapA IntKind.u8 (Int.ofNat i + (1 : Int)))))) }, { st := 33281, sz := 1, n := 1, f := oneF (CV.opv (pB (SS.P (SS.wrS s (aa i) 64 (fB (wrapA IntKind.u8 (Int.ofNat i + (1 : Int))))))) 66 (pW (SS.P (SS.wrS s (aa i) 64 (fB (wrapA IntKind.u8 (Int.ofNat i + (1 : Int)))))))) }, { st := 33282, sz := 1, n := 512, f := latF (lB (SS.P (SS.wrS s (aa i) 64 (fB (wrapA IntKind.u8 (Int.ofNat i + (1 : Int))))))) (lW (SS.P (SS.wrS s (aa i) 64 (fB (wrapA IntKind.u8 (Int.ofNat i + (1 : Int))))))) }, { st := 33794, sz := 5, n := 1, f := tailF (Int.ofNat (List.length (SS.P (SS.wrS s (aa i) 64 (fB (wrapA IntKind.u8 (Int.ofNat i + (1 : Int)))))))) (Int.ofNat (SS.wr (SS.wrS s (aa i) 64 (fB (wrapA IntKind.u8 (Int.ofNat i + (1 : Int))))))) (SS.off (SS.wrS s (aa i) 64 (fB (wrapA IntKind.u8 (Int.ofNat i + (1 : Int)))))) (SS.armed (SS.wrS s (aa i) 64 (fB (wrapA IntKind.u8 (Int.ofNat i + (1 : Int)))))) (Int.ofNat (SS.left (SS.wrS s (aa i) 64 (fB (wrapA IntKind.u8 (Int.ofNat i + (1 : Int))))))) }])) (T.n (some (AObj.rows 5 1 64 (fF (wrapA IntKind.u8 (Int.ofNat i + (1 : Int)))))) T.e T.e) T.e, next := 2, log := [0, 1] })
  Orc.z) ∧ ((!decide (Int.ofNat (SS.wr (SS.wrS s (aa i) 64 (fB (wrapA IntKind.u8 (Int.ofNat i + (1 : Int)))))) = Int.ofNat tk + (1 : Int))) = false → Con Try.prog 22 [AV.p 0 0, AV.i
  IntKind.i64 keep, AV.b false] [some (SS.o (SS.wrS s (aa i) 64 (fB (wrapA IntKind.u8 (Int.ofNat i + (1 : Int))))))] (AV.i IntKind.i64 (SS.revE (SS.wrS s (aa i) 64 (fB (wrapA
  IntKind.u8 (Int.ofNat i + (1 : Int))))))) [Upd.set (SS.o (SS.revived (SS.wrS s (aa i) 64 (fB (wrapA IntKind.u8 (Int.ofNat i + (1 : Int))))) keep false))] ∧ (decide (SS.revE
  (SS.wrS s (aa i) 64 (fB (wrapA IntKind.u8 (Int.ofNat i + (1 : Int))))) = (0 : Int)) = true → decide (SS.revE (SS.wrS s (aa i) 64 (fB (wrapA IntKind.u8 (Int.ofNat i + (1 : Int)))))
  = (0 : Int)) = true ∧ Con Try.prog 28 [AV.p 0 0] [some (SS.o (SS.revived (SS.wrS s (aa i) 64 (fB (wrapA IntKind.u8 (Int.ofNat i + (1 : Int))))) keep false))] (AV.i IntKind.i64
  (Int.ofNat (List.length (SS.P (SS.revived (SS.wrS s (aa i) 64 (fB (wrapA IntKind.u8 (Int.ofNat i + (1 : Int))))) keep false))))) [Upd.keep] ∧ decide (SS.revE (SS.wrS s (aa i) 64
  (fB (wrapA IntKind.u8 (Int.ofNat i + (1 : Int))))) = (0 : Int)) = true ∧ decide (SS.revE (SS.wrS s (aa i) 64 (fB (wrapA IntKind.u8 (Int.ofNat i + (1 : Int))))) = (0 : Int)) = true
  ∧ (decide (Int.ofNat (List.length (SS.P (SS.revived (SS.wrS s (aa i) 64 (fB (wrapA IntKind.u8 (Int.ofNat i + (1 : Int))))) keep false))) = (0 : Int)) = true → decide (Int.ofNat
  (List.length (SS.P (SS.revived (SS.wrS s (aa i) 64 (fB (wrapA IntKind.u8 (Int.ofNat i + (1 : Int))))) keep false))) = (0 : Int)) = true ∧ Con Try.prog 25 [AV.i IntKind.u8 (9 :
  Int), AV.i IntKind.i64 (64 : Int)] [] (AV.lr 0 1 0 64 false) [Upd.set (AObj.rows 5 1 64 (fF (9 : Int)))] ∧ decide (Int.ofNat (List.length (SS.P (SS.revived (SS.wrS s (aa i) 64 (fB
  (wrapA IntKind.u8 (Int.ofNat i + (1 : Int))))) keep false))) = (0 : Int)) = true ∧ Con Try.prog 24 [AV.p 0 0, AV.i IntKind.i64 (0 : Int), AV.lr 1 1 0 64 false] [some (SS.o
  (SS.revived (SS.wrS s (aa i) 64 (fB (wrapA IntKind.u8 (Int.ofNat i + (1 : Int))))) keep false)), some (AObj.rows 5 1 64 fun k x => CV.i IntKind.u8 (fB (9 : Int) k))] (AV.i
  IntKind.i64 (SS.wrE (SS.revived (SS.wrS s (aa i) 64 (fB (wrapA IntKind.u8 (Int.ofNat i + (1 : Int))))) keep false) (0 : Int) 64)) [Upd.set (SS.o (SS.wrS (SS.revived (SS.wrS s (aa
  i) 64 (fB (wrapA IntKind.u8 (Int.ofNat i + (1 : Int))))) keep false) (0 : Int) 64 (fB (9 : Int)))), Upd.keep] ∧ decide (Int.ofNat (List.length (SS.P (SS.revived (SS.wrS s (aa i)
  64 (fB (wrapA IntKind.u8 (Int.ofNat i + (1 : Int))))) keep false))) = (0 : Int)) = true ∧ decide (Int.ofNat (List.length (SS.P (SS.revived (SS.wrS s (aa i) 64 (fB (wrapA
  IntKind.u8 (Int.ofNat i + (1 : Int))))) keep false))) = (0 : Int)) = true ∧ K (Res.st XO.ret (T.n (some (AV.i IntKind.i64 k)) (T.n none (T.n none (T.n (some (AV.p 0 0)) (T.n none
  (T.n none (T.n (some (AV.i IntKind.i64 k)) T.e T.e) (T.n (some (AV.i IntKind.i64 (Int.ofNat (SS.wr (SS.wrS s (aa i) 64 (fB (wrapA IntKind.u8 (Int.ofNat i + (1 : Int))))))))) T.e
  T.e)) (T.n (some (AV.i IntKind.i64 (aa i))) (T.n (some (AV.tup [])) T.e T.e) (T.n (some (AV.lr 2 1 0 64 false)) T.e T.e))) (T.n none (T.n none (T.n (some (AV.p 0 0)) T.e T.e) (T.n
  (some (AV.b (decide (SS.revE (SS.wrS s (aa i) 64 (fB (wrapA IntKind.u8 (Int.ofNat i + (1 : Int))))) = (0 : Int))))) T.e T.e)) (T.n (some (AV.i IntKind.i64 (aa i))) (T.n (some
  (AV.p 0 0)) T.e T.e) T.e))) (T.n (some (AV.i IntKind.i64 (aa i))) (T.n none (T.n none (T.n (some (AV.i IntKind.i64 (Int.ofNat tk))) T.e T.e) (T.n (some (AV.b !decide (Int.ofNat
  (SS.wr (SS.wrS s (aa i) 64 (fB (wrapA IntKind.u8 (Int.ofNat i + (1 : Int)))))) = Int.ofNat tk + (1 : Int)))) T.e T.e)) (T.n (some (AV.i IntKind.i64 (Int.ofNat i + (1 : Int))))
  (T.n (some (AV.b (decide (Int.ofNat tk = k)))) T.e T.e) T.e)) (T.n none (T.n (some (AV.i IntKind.i64 (Int.ofNat i))) (T.n (some (AV.tup [])) T.e T.e) (T.n (some (AV.b (decide
  (Int.ofNat (List.length (SS.P (SS.revived (SS.wrS s (aa i) 64 (fB (wrapA IntKind.u8 (Int.ofNat i + (1 : Int))))) keep false))) = (0 : Int))))) T.e T.e)) (T.n (some (AV.b (decide
  (aa i < (4 : Int))))) (T.n (some (AV.b !decide (Int.ofNat (List.length (SS.P (SS.wrS s (aa i) 64 (fB (wrapA IntKind.u8 (Int.ofNat i + (1 : Int))))))) = Int.ofNat tk + (1 : Int))))
  T.e T.e) T.e)))) (T.n none (T.n (some (AV.i IntKind.i64 (Int.ofNat tk))) (T.n none (T.n none (T.n (some (AV.b (decide ((0 : Int) ≤ k)))) T.e T.e) (T.n (some (AV.i IntKind.i64
  (Int.ofNat tk + (1 : Int)))) T.e T.e)) (T.n (some (AV.i IntKind.i64 (aa i))) (T.n (some (AV.b true)) T.e T.e) (T.n (some (AV.b (decide (SS.wrE (SS.revived (SS.wrS s (aa i) 64 (fB
  (wrapA IntKind.u8 (Int.ofNat i + (1 : Int))))) keep false) (0 : Int) 64 = (0 : Int))))) T.e T.e))) (T.n none (T.n (some (AV.sv 1 L fun i x => CV.i IntKind.i64 (aa i))) (T.n (some
  (AV.b (decide (Int.ofNat tk = k)))) T.e T.e) (T.n (some (AV.p 0 0)) T.e T.e)) (T.n (some (AV.b (decide ((0 : Int) ≤ aa i)))) (T.n (some (AV.i IntKind.i64 (Int.ofNat tk))) T.e T.e)
  T.e))) (T.n (some (AV.b (decide (aa i < (4 : Int))))) (T.n none (T.n none (T.n (some (AV.b (decide (Int.ofNat tk = k)))) T.e T.e) (T.n (some (AV.i IntKind.i64 keep)) T.e T.e))
  (T.n (some (AV.lr 1 1 0 64 false)) (T.n (some (AV.b !decide (SS.wrE s (aa i) 64 = (13 : Int)))) T.e T.e) T.e)) (T.n none (T.n (some (AV.i IntKind.i64 (Int.ofNat i))) (T.n (some
  (AV.tup [])) T.e T.e) (T.n (some (AV.b (decide (Int.ofNat (List.length (SS.P (SS.revived (SS.wrS s (aa i) 64 (fB (wrapA IntKind.u8 (Int.ofNat i + (1 : Int))))) keep false))) = (0
  : Int))))) T.e T.e)) (T.n (some (AV.b (decide (aa i < (4 : Int))))) (T.n (some (AV.b !decide (Int.ofNat (List.length (SS.P (SS.wrS s (aa i) 64 (fB (wrapA IntKind.u8 (Int.ofNat i +
  (1 : Int))))))) = Int.ofNat tk + (1 : Int)))) T.e T.e) T.e))))) (T.n (some (AV.i IntKind.i64 keep)) (T.n none (T.n none (T.n none (T.n none (T.n (some (AV.b (decide ((0 : Int) ≤
  k)))) T.e T.e) (T.n (some (AV.i IntKind.i64 (Int.ofNat tk))) T.e T.e)) (T.n (some (AV.p 0 0)) (T.n (some (AV.tup [])) T.e T.e) (T.n (some (AV.i IntKind.i64 (SS.wrE (SS.revived
  (SS.wrS s (aa i) 64 (fB (wrapA IntKind.u8 (Int.ofNat i + (1 : Int))))) keep false) (0 : Int) 64))) T.e T.e))) (T.n none (T.n none (T.n (some (AV.b (SS.off (SS.wrS s (aa i) 64 (fB
  (wrapA IntKind.u8 (Int.ofNat i + (1 : Int)))))))) T.e T.e) (T.n (some (AV.b (decide (SS.revE (SS.wrS s (aa i) 64 (fB (wrapA IntKind.u8 (Int.ofNat i + (1 : Int))))) = (0 : Int)))))
  T.e T.e)) (T.n (some (AV.b (decide ((0 : Int) ≤ aa i)))) (T.n (some (AV.i IntKind.i64 (Int.ofNat (List.length (SS.P (SS.wrS s (aa i) 64 (fB (wrapA IntKind.u8 (Int.ofNat i + (1 :
  Int)))))))))) T.e T.e) T.e))) (T.n (some (AV.i IntKind.i64 (SS.wrE s (aa i) 64))) (T.n none (T.n none (T.n (some (AV.i IntKind.i64 k)) T.e T.e) (T.n (some (AV.p 0 0)) T.e T.e))
  (T.n (some (AV.i IntKind.u8 (wrapA IntKind.u8 (Int.ofNat i + (1 : Int))))) (T.n (some (AV.i IntKind.i64 (SS.wrE s (aa i) 64))) T.e T.e) T.e)) (T.n none (T.n (some (AV.b (decide
  (Int.ofNat i < Int.ofNat L)))) (T.n (some (AV.tup [])) T.e T.e) (T.n (some (AV.b (decide (Int.ofNat (List.length (SS.P (SS.revived (SS.wrS s (aa i) 64 (fB (wrapA IntKind.u8
  (Int.ofNat i + (1 : Int))))) keep false))) = (0 : Int))))) T.e T.e)) (T.n (some (AV.b (decide (aa i < (4 : Int))))) (T.n (some (AV.b !decide (Int.ofNat (List.length (SS.P (SS.wrS
  s (aa i) 64 (fB (wrapA IntKind.u8 (Int.ofNat i + (1 : Int))))))) = Int.ofNat tk + (1 : Int)))) T.e T.e) T.e)))) (T.n (some (AV.b (decide (SS.wrE (SS.revived (SS.wrS s (aa i) 64
  (fB (wrapA IntKind.u8 (Int.ofNat i + (1 : Int))))) keep false) (0 : Int) 64 = (0 : Int))))) (T.n (some (AV.i IntKind.i64 (Int.ofNat i))) (T.n none (T.n none (T.n (some (AV.b
  (decide ((0 : Int) ≤ k)))) T.e T.e) (T.n (some (AV.b !decide (Int.ofNat (SS.wr (SS.wrS s (aa i) 64 (fB (wrapA IntKind.u8 (Int.ofNat i + (1 : Int)))))) = Int.ofNat tk + (1 :
  Int)))) T.e T.e)) (T.n (some (AV.i IntKind.i64 (Int.ofNat i))) (T.n (some (AV.b !SS.off (SS.wrS s (aa i) 64 (fB (wrapA IntKind.u8 (Int.ofNat i + (1 : Int))))) == true)) T.e T.e)
  (T.n (some (AV.b (decide (SS.wrE (SS.revived (SS.wrS s (aa i) 64 (fB (wrapA IntKind.u8 (Int.ofNat i + (1 : Int))))) keep false) (0 : Int) 64 = (0 : Int))))) T.e T.e))) (T.n none
  (T.n (some (AV.i IntKind.i64 (Int.ofNat L))) (T.n (some (AV.b (decide (Int.ofNat tk = k)))) T.e T.e) (T.n (some (AV.i IntKind.i64 (Int.ofNat (List.length (SS.P (SS.revived (SS.wrS
  s (aa i) 64 (fB (wrapA IntKind.u8 (Int.ofNat i + (1 : Int))))) keep false)))))) T.e T.e)) (T.n (some (AV.i IntKind.i64 (aa i))) (T.n (some (AV.i IntKind.i64 (Int.ofNat tk + (1 :
  Int)))) T.e T.e) T.e))) (T.n (some (AV.b (decide (Int.ofNat tk = k)))) (T.n none (T.n none (T.n (some (AV.b (decide (Int.ofNat tk = k)))) T.e T.e) (T.n (some (AV.i IntKind.i64
  (SS.revE (SS.wrS s (aa i) 64 (fB (wrapA IntKind.u8 (Int.ofNat i + (1 : Int)))))))) T.e T.e)) (T.n (some (AV.i IntKind.i64 (SS.wrE s (aa i) 64))) (T.n (some (AV.b !decide (SS.wrE s
  (aa i) 64 = (13 : Int)))) T.e T.e) T.e)) (T.n none (T.n (some (AV.pv 1 fun c => CV.i IntKind.i64 (aa i))) (T.n (some (AV.tup [])) T.e T.e) (T.n (some (AV.p 0 0)) T.e T.e)) (T.n
  (some (AV.b (decide (aa i < (4 : Int))))) (T.n (some (AV.p 0 0)) T.e T.e) T.e)))))) { tree := T.n (some (AObj.segs 73 33799 [{ st := 0, sz := 1, n := 1, f := oneF (CV.i IntKind.i64 (Int.ofNat (SS.n (SS.wrS (SS.revived (SS.wrS s (aa i) 64 (fB (wrapA IntKind.u8 (Int.ofNat i + (1 : Int))))) keep false) (0 : Int) 64 (fB (9 : Int)))))) }, { st := 1, sz := 65, n := 512, f := durF (SS.dur (SS.wrS (SS.revived (SS.wrS s (aa i) 64 (fB (wrapA IntKind.u8 (Int.ofNat i + (1 : Int))))) keep false) (0 : Int) 64 (fB (9 : Int)))) (SS.torn (SS.wrS (SS.revived (SS.wrS s (aa i) 64 (fB (wrapA IntKind.u8 (Int.ofNat i + (1 : Int))))) keep false) (0 : Int) 64 (fB (9 : Int)))) }, { st := 33281, sz := 1, n := 1, f := oneF (CV.opv (pB (SS.P (SS.wrS (SS.revived (SS.wrS s (aa i) 64 (fB (wrapA IntKind.u8 (Int.ofNat i + (1 : Int))))) keep false) (0 : Int) 64 (fB (9 : Int))))) 66 (pW (SS.P (SS.wrS (SS.revived (SS.wrS s (aa i) 64 (fB (wrapA IntKind.u8 (Int.ofNat i + (1 : Int))))) keep false) (0 : Int) 64 (fB (9 : Int)))))) }, { st := 33282, sz := 1, n := 512, f := latF (lB (SS.P (SS.wrS (SS.revived (SS.wrS s (aa i) 64 (fB (wrapA IntKind.u8 (Int.ofNat i + (1 : Int))))) keep false) (0 : Int) 64 (fB (9 : Int))))) (lW (SS.P (SS.wrS (SS.revived (SS.wrS s (aa i) 64 (fB (wrapA IntKind.u8 (Int.ofNat i + (1 : Int))))) keep false) (0 : Int) 64 (fB (9 : Int))))) }, { st := 33794, sz := 5, n := 1, f := tailF (Int.ofNat (List.length (SS.P (SS.wrS (SS.revived (SS.wrS s (aa i) 64 (fB (wrapA IntKind.u8 (Int.ofNat i + (1 : Int))))) keep false) (0 : Int) 64 (fB (9 : Int)))))) (Int.ofNat (SS.wr (SS.wrS (SS.revived (SS.wrS s (aa i) 64 (fB (wrapA IntKind.u8 (Int.ofNat i + (1 : Int))))) keep false) (0 : Int) 64 (fB (9 : Int))))) (SS.off (SS.wrS (SS.revived (SS.wrS s (aa i) 64 (fB (wrapA IntKind.u8 (Int.ofNat i + (1 : Int))))) keep false) (0 : Int) 64 (fB (9 : Int)))) (SS.armed (SS.wrS (SS.revived (SS.wrS s (aa i) 64 (fB (wrapA IntKind.u8 (Int.ofNat i + (1 : Int))))) keep false) (0 : Int) 64 (fB (9 : Int)))) (Int.ofNat (SS.left (SS.wrS (SS.revived (SS.wrS s (aa i) 64 (fB (wrapA IntKind.u8 (Int.ofNat i + (1 : Int))))) keep false) (0 : Int) 64 (fB (9 : Int))))) }])) (T.n (some (AObj.rows 5 1 64 (fF (wrapA IntKind.u8 (Int.ofNat i + (1 : Int)))))) T.e T.e) (T.n (some (AObj.rows 5 1 64 (fF (9 : Int)))) T.e T.e), next := 3, log := [0, 2, 0, 0, 1] })
  Orc.z) ∧ (decide (Int.ofNat (List.length (SS.P (SS.revived (SS.wrS s (aa i) 64 (fB (wrapA IntKind.u8 (Int.ofNat i + (1 : Int))))) keep false))) = (0 : Int)) = false → decide
  (Int.ofNat (List.length (SS.P (SS.revived (SS.wrS s (aa i) 64 (fB (wrapA IntKind.u8 (Int.ofNat i + (1 : Int))))) keep false))) = (0 : Int)) = false ∧ decide (Int.ofNat
  (List.length (SS.P (SS.revived (SS.wrS s (aa i) 64 (fB (wrapA IntKind.u8 (Int.ofNat i + (1 : Int))))) keep false))) = (0 : Int)) = false ∧ decide (Int.ofNat (List.length (SS.P
  (SS.revived (SS.wrS s (aa i) 64 (fB (wrapA IntKind.u8 (Int.ofNat i + (1 : Int))))) keep false))) = (0 : Int)) = false ∧ decide (Int.ofNat (List.length (SS.P (SS.revived (SS.wrS s
  (aa i) 64 (fB (wrapA IntKind.u8 (Int.ofNat i + (1 : Int))))) keep false))) = (0 : Int)) = false ∧ K (Res.st XO.ret (T.n (some (AV.i IntKind.i64 k)) (T.n none (T.n none (T.n (some
  (AV.p 0 0)) (T.n none (T.n none (T.n (some (AV.i IntKind.i64 k)) T.e T.e) (T.n (some (AV.i IntKind.i64 (Int.ofNat (SS.wr (SS.wrS s (aa i) 64 (fB (wrapA IntKind.u8 (Int.ofNat i +
  (1 : Int))))))))) T.e T.e)) (T.n (some (AV.i IntKind.i64 (aa i))) (T.n (some (AV.tup [])) T.e T.e) (T.n (some (AV.tup [])) T.e T.e))) (T.n none (T.n none (T.n (some (AV.p 0 0))
  T.e T.e) (T.n (some (AV.b (decide (SS.revE (SS.wrS s (aa i) 64 (fB (wrapA IntKind.u8 (Int.ofNat i + (1 : Int))))) = (0 : Int))))) T.e T.e)) (T.n (some (AV.i IntKind.i64 (aa i)))
  (T.n (some (AV.p 0 0)) T.e T.e) T.e))) (T.n (some (AV.i IntKind.i64 (aa i))) (T.n none (T.n none (T.n (some (AV.i IntKind.i64 (Int.ofNat tk))) T.e T.e) (T.n (some (AV.b !decide
  (Int.ofNat (SS.wr (SS.wrS s (aa i) 64 (fB (wrapA IntKind.u8 (Int.ofNat i + (1 : Int)))))) = Int.ofNat tk + (1 : Int)))) T.e T.e)) (T.n (some (AV.i IntKind.i64 (Int.ofNat i + (1 :
  Int)))) (T.n (some (AV.b (decide (Int.ofNat tk = k)))) T.e T.e) T.e)) (T.n none (T.n (some (AV.i IntKind.i64 (Int.ofNat i))) (T.n (some (AV.tup [])) T.e T.e) (T.n (some (AV.b
  (decide (Int.ofNat (List.length (SS.P (SS.revived (SS.wrS s (aa i) 64 (fB (wrapA IntKind.u8 (Int.ofNat i + (1 : Int))))) keep false))) = (0 : Int))))) T.e T.e)) (T.n (some (AV.b
  (decide (aa i < (4 : Int))))) (T.n (some (AV.b !decide (Int.ofNat (List.length (SS.P (SS.wrS s (aa i) 64 (fB (wrapA IntKind.u8 (Int.ofNat i + (1 : Int))))))) = Int.ofNat tk + (1 :
  Int)))) T.e T.e) T.e)))) (T.n none (T.n (some (AV.i IntKind.i64 (Int.ofNat tk))) (T.n none (T.n none (T.n (some (AV.b (decide ((0 : Int) ≤ k)))) T.e T.e) (T.n (some (AV.i
  IntKind.i64 (Int.ofNat tk + (1 : Int)))) T.e T.e)) (T.n (some (AV.i IntKind.i64 (aa i))) (T.n (some (AV.b true)) T.e T.e) (T.n (some (AV.tup [])) T.e T.e))) (T.n none (T.n (some
  (AV.sv 1 L fun i x => CV.i IntKind.i64 (aa i))) (T.n (some (AV.b (decide (Int.ofNat tk = k)))) T.e T.e) (T.n (some (AV.p 0 0)) T.e T.e)) (T.n (some (AV.b (decide ((0 : Int) ≤ aa
  i)))) (T.n (some (AV.i IntKind.i64 (Int.ofNat tk))) T.e T.e) T.e))) (T.n (some (AV.b (decide (aa i < (4 : Int))))) (T.n none (T.n none (T.n (some (AV.b (decide (Int.ofNat tk =
  k)))) T.e T.e) (T.n (some (AV.i IntKind.i64 keep)) T.e T.e)) (T.n (some (AV.lr 1 1 0 64 false)) (T.n (some (AV.b !decide (SS.wrE s (aa i) 64 = (13 : Int)))) T.e T.e) T.e)) (T.n
  none (T.n (some (AV.i IntKind.i64 (Int.ofNat i))) (T.n (some (AV.tup [])) T.e T.e) (T.n (some (AV.b (decide (Int.ofNat (List.length (SS.P (SS.revived (SS.wrS s (aa i) 64 (fB
  (wrapA IntKind.u8 (Int.ofNat i + (1 : Int))))) keep false))) = (0 : Int))))) T.e T.e)) (T.n (some (AV.b (decide (aa i < (4 : Int))))) (T.n (some (AV.b !decide (Int.ofNat
  (List.length (SS.P (SS.wrS s (aa i) 64 (fB (wrapA IntKind.u8 (Int.ofNat i + (1 : Int))))))) = Int.ofNat tk + (1 : Int)))) T.e T.e) T.e))))) (T.n (some (AV.i IntKind.i64 keep))
  (T.n none (T.n none (T.n none (T.n none (T.n (some (AV.b (decide ((0 : Int) ≤ k)))) T.e T.e) (T.n (some (AV.i IntKind.i64 (Int.ofNat tk))) T.e T.e)) (T.n (some (AV.p 0 0)) (T.n
  (some (AV.tup [])) T.e T.e) (T.n (some (AV.tup [])) T.e T.e))) (T.n none (T.n none (T.n (some (AV.b (SS.off (SS.wrS s (aa i) 64 (fB (wrapA IntKind.u8 (Int.ofNat i + (1 :
  Int)))))))) T.e T.e) (T.n (some (AV.b (decide (SS.revE (SS.wrS s (aa i) 64 (fB (wrapA IntKind.u8 (Int.ofNat i + (1 : Int))))) = (0 : Int))))) T.e T.e)) (T.n (some (AV.b (decide
  ((0 : Int) ≤ aa i)))) (T.n (some (AV.i IntKind.i64 (Int.ofNat (List.length (SS.P (SS.wrS s (aa i) 64 (fB (wrapA IntKind.u8 (Int.ofNat i + (1 : Int)))))))))) T.e T.e) T.e))) (T.n
  (some (AV.i IntKind.i64 (SS.wrE s (aa i) 64))) (T.n none (T.n none (T.n (some (AV.i IntKind.i64 k)) T.e T.e) (T.n (some (AV.p 0 0)) T.e T.e)) (T.n (some (AV.i IntKind.u8 (wrapA
  IntKind.u8 (Int.ofNat i + (1 : Int))))) (T.n (some (AV.i IntKind.i64 (SS.wrE s (aa i) 64))) T.e T.e) T.e)) (T.n none (T.n (some (AV.b (decide (Int.ofNat i < Int.ofNat L)))) (T.n
  (some (AV.tup [])) T.e T.e) (T.n (some (AV.b (decide (Int.ofNat (List.length (SS.P (SS.revived (SS.wrS s (aa i) 64 (fB (wrapA IntKind.u8 (Int.ofNat i + (1 : Int))))) keep false)))
  = (0 : Int))))) T.e T.e)) (T.n (some (AV.b (decide (aa i < (4 : Int))))) (T.n (some (AV.b !decide (Int.ofNat (List.length (SS.P (SS.wrS s (aa i) 64 (fB (wrapA IntKind.u8
  (Int.ofNat i + (1 : Int))))))) = Int.ofNat tk + (1 : Int)))) T.e T.e) T.e)))) (T.n (some (AV.b false)) (T.n (some (AV.i IntKind.i64 (Int.ofNat i))) (T.n none (T.n none (T.n (some
  (AV.b (decide ((0 : Int) ≤ k)))) T.e T.e) (T.n (some (AV.b !decide (Int.ofNat (SS.wr (SS.wrS s (aa i) 64 (fB (wrapA IntKind.u8 (Int.ofNat i + (1 : Int)))))) = Int.ofNat tk + (1 :
  Int)))) T.e T.e)) (T.n (some (AV.i IntKind.i64 (Int.ofNat i))) (T.n (some (AV.b !SS.off (SS.wrS s (aa i) 64 (fB (wrapA IntKind.u8 (Int.ofNat i + (1 : Int))))) == true)) T.e T.e)
  (T.n (some (AV.b false)) T.e T.e))) (T.n none (T.n (some (AV.i IntKind.i64 (Int.ofNat L))) (T.n (some (AV.b (decide (Int.ofNat tk = k)))) T.e T.e) (T.n (some (AV.i IntKind.i64
  (Int.ofNat (List.length (SS.P (SS.revived (SS.wrS s (aa i) 64 (fB (wrapA IntKind.u8 (Int.ofNat i + (1 : Int))))) keep false)))))) T.e T.e)) (T.n (some (AV.i IntKind.i64 (aa i)))
  (T.n (some (AV.i IntKind.i64 (Int.ofNat tk + (1 : Int)))) T.e T.e) T.e))) (T.n (some (AV.b (decide (Int.ofNat tk = k)))) (T.n none (T.n none (T.n (some (AV.b (decide (Int.ofNat tk
  = k)))) T.e T.e) (T.n (some (AV.i IntKind.i64 (SS.revE (SS.wrS s (aa i) 64 (fB (wrapA IntKind.u8 (Int.ofNat i + (1 : Int)))))))) T.e T.e)) (T.n (some (AV.i IntKind.i64 (SS.wrE s
  (aa i) 64))) (T.n (some (AV.b !decide (SS.wrE s (aa i) 64 = (13 : Int)))) T.e T.e) T.e)) (T.n none (T.n (some (AV.pv 1 fun c => CV.i IntKind.i64 (aa i))) (T.n (some (AV.tup []))
  T.e T.e) (T.n (some (AV.tup [])) T.e T.e)) (T.n (some (AV.b (decide (aa i < (4 : Int))))) (T.n (some (AV.p 0 0)) T.e T.e) T.e)))))) { tree := T.n (some (AObj.segs 73 33799 [{ st := 0, sz := 1, n := 1, f := oneF (CV.i IntKind.i64 (Int.ofNat (SS.n (SS.revived (SS.wrS s (aa i) 64 (fB (wrapA IntKind.u8 (Int.ofNat i + (1 : Int))))) keep false)))) }, { st := 1, sz := 65, n := 512, f := durF (SS.dur (SS.revived (SS.wrS s (aa i) 64 (fB (wrapA IntKind.u8 (Int.ofNat i + (1 : Int))))) keep false)) (SS.torn (SS.revived (SS.wrS s (aa i) 64 (fB (wrapA IntKind.u8 (Int.ofNat i + (1 : Int))))) keep false)) }, { st := 33281, sz := 1, n := 1, f := oneF (CV.opv (pB (SS.P (SS.revived (SS.wrS s (aa i) 64 (fB (wrapA IntKind.u8 (Int.ofNat i + (1 : Int))))) keep false))) 66 (pW (SS.P (SS.revived (SS.wrS s (aa i) 64 (fB (wrapA IntKind.u8 (Int.ofNat i + (1 : Int))))) keep false)))) }, { st := 33282, sz := 1, n := 512, f := latF (lB (SS.P (SS.revived (SS.wrS s (aa i) 64 (fB (wrapA IntKind.u8 (Int.ofNat i + (1 : Int))))) keep false))) (lW (SS.P (SS.revived (SS.wrS s (aa i) 64 (fB (wrapA IntKind.u8 (Int.ofNat i + (1 : Int))))) keep false))) }, { st := 33794, sz := 5, n := 1, f := tailF (Int.ofNat (List.length (SS.P (SS.revived (SS.wrS s (aa i) 64 (fB (wrapA IntKind.u8 (Int.ofNat i + (1 : Int))))) keep false)))) (Int.ofNat (SS.wr (SS.revived (SS.wrS s (aa i) 64 (fB (wrapA IntKind.u8 (Int.ofNat i + (1 : Int))))) keep false))) (SS.off (SS.revived (SS.wrS s (aa i) 64 (fB (wrapA IntKind.u8 (Int.ofNat i + (1 : Int))))) keep false)) (SS.armed (SS.revived (SS.wrS s (aa i) 64 (fB (wrapA IntKind.u8 (Int.ofNat i + (1 : Int))))) keep false)) (Int.ofNat (SS.left (SS.revived (SS.wrS s (aa i) 64 (fB (wrapA IntKind.u8 (Int.ofNat i + (1 : Int))))) keep false))) }])) (T.n (some (AObj.rows 5 1 64 (fF (wrapA IntKind.u8 (Int.ofNat i + (1 : Int)))))) T.e T.e) T.e, next := 2, log := [0, 0, 1] })
  Orc.z)) ∧ (decide (SS.revE (SS.wrS s (aa i) 64 (fB (wrapA IntKind.u8 (Int.ofNat i + (1 : Int))))) = (0 : Int)) = false → decide (SS.revE (SS.wrS s (aa i) 64 (fB (wrapA IntKind.u8
  (Int.ofNat i + (1 : Int))))) = (0 : Int)) = false ∧ decide (SS.revE (SS.wrS s (aa i) 64 (fB (wrapA IntKind.u8 (Int.ofNat i + (1 : Int))))) = (0 : Int)) = false ∧ decide (SS.revE
  (SS.wrS s (aa i) 64 (fB (wrapA IntKind.u8 (Int.ofNat i + (1 : Int))))) = (0 : Int)) = false ∧ K (Res.st XO.ret (T.n (some (AV.i IntKind.i64 k)) (T.n none (T.n none (T.n (some
  (AV.p 0 0)) (T.n none (T.n none (T.n (some (AV.i IntKind.i64 k)) T.e T.e) (T.n (some (AV.i IntKind.i64 (Int.ofNat (SS.wr (SS.wrS s (aa i) 64 (fB (wrapA IntKind.u8 (Int.ofNat i +
  (1 : Int))))))))) T.e T.e)) (T.n (some (AV.i IntKind.i64 (aa i))) (T.n (some (AV.tup [])) T.e T.e) (T.n (some (AV.tup [])) T.e T.e))) (T.n none (T.n none (T.n (some (AV.p 0 0))
  T.e T.e) (T.n (some (AV.b (decide (SS.revE (SS.wrS s (aa i) 64 (fB (wrapA IntKind.u8 (Int.ofNat i + (1 : Int))))) = (0 : Int))))) T.e T.e)) (T.n (some (AV.i IntKind.i64 (aa i)))
  (T.n (some (AV.p 0 0)) T.e T.e) T.e))) (T.n (some (AV.i IntKind.i64 (aa i))) (T.n none (T.n none (T.n (some (AV.i IntKind.i64 (Int.ofNat tk))) T.e T.e) (T.n (some (AV.b !decide
  (Int.ofNat (SS.wr (SS.wrS s (aa i) 64 (fB (wrapA IntKind.u8 (Int.ofNat i + (1 : Int)))))) = Int.ofNat tk + (1 : Int)))) T.e T.e)) (T.n (some (AV.i IntKind.i64 (Int.ofNat i + (1 :
  Int)))) (T.n (some (AV.b (decide (Int.ofNat tk = k)))) T.e T.e) T.e)) (T.n none (T.n (some (AV.i IntKind.i64 (Int.ofNat i))) (T.n (some (AV.tup [])) T.e T.e) (T.n (some (AV.tup
  [])) T.e T.e)) (T.n (some (AV.b (decide (aa i < (4 : Int))))) (T.n (some (AV.b !decide (Int.ofNat (List.length (SS.P (SS.wrS s (aa i) 64 (fB (wrapA IntKind.u8 (Int.ofNat i + (1 :
  Int))))))) = Int.ofNat tk + (1 : Int)))) T.e T.e) T.e)))) (T.n none (T.n (some (AV.i IntKind.i64 (Int.ofNat tk))) (T.n none (T.n none (T.n (some (AV.b (decide ((0 : Int) ≤ k))))
  T.e T.e) (T.n (some (AV.i IntKind.i64 (Int.ofNat tk + (1 : Int)))) T.e T.e)) (T.n (some (AV.i IntKind.i64 (aa i))) (T.n (some (AV.b true)) T.e T.e) (T.n (some (AV.tup [])) T.e
  T.e))) (T.n none (T.n (some (AV.sv 1 L fun i x => CV.i IntKind.i64 (aa i))) (T.n (some (AV.b (decide (Int.ofNat tk = k)))) T.e T.e) (T.n (some (AV.tup [])) T.e T.e)) (T.n (some
  (AV.b (decide ((0 : Int) ≤ aa i)))) (T.n (some (AV.i IntKind.i64 (Int.ofNat tk))) T.e T.e) T.e))) (T.n (some (AV.b (decide (aa i < (4 : Int))))) (T.n none (T.n none (T.n (some
  (AV.b (decide (Int.ofNat tk = k)))) T.e T.e) (T.n (some (AV.i IntKind.i64 keep)) T.e T.e)) (T.n (some (AV.lr 1 1 0 64 false)) (T.n (some (AV.b !decide (SS.wrE s (aa i) 64 = (13 :
  Int)))) T.e T.e) T.e)) (T.n none (T.n (some (AV.i IntKind.i64 (Int.ofNat i))) (T.n (some (AV.tup [])) T.e T.e) (T.n (some (AV.b false)) T.e T.e)) (T.n (some (AV.b (decide (aa i <
  (4 : Int))))) (T.n (some (AV.b !decide (Int.ofNat (List.length (SS.P (SS.wrS s (aa i) 64 (fB (wrapA IntKind.u8 (Int.ofNat i + (1 : Int))))))) = Int.ofNat tk + (1 : Int)))) T.e
  T.e) T.e))))) (T.n (some (AV.i IntKind.i64 keep)) (T.n none (T.n none (T.n none (T.n none (T.n (some (AV.b (decide ((0 : Int) ≤ k)))) T.e T.e) (T.n (some (AV.i IntKind.i64
  (Int.ofNat tk))) T.e T.e)) (T.n (some (AV.p 0 0)) (T.n (some (AV.tup [])) T.e T.e) (T.n (some (AV.tup [])) T.e T.e))) (T.n none (T.n none (T.n (some (AV.b (SS.off (SS.wrS s (aa i)
  64 (fB (wrapA IntKind.u8 (Int.ofNat i + (1 : Int)))))))) T.e T.e) (T.n (some (AV.b (decide (SS.revE (SS.wrS s (aa i) 64 (fB (wrapA IntKind.u8 (Int.ofNat i + (1 : Int))))) = (0 :
  Int))))) T.e T.e)) (T.n (some (AV.b (decide ((0 : Int) ≤ aa i)))) (T.n (some (AV.i IntKind.i64 (Int.ofNat (List.length (SS.P (SS.wrS s (aa i) 64 (fB (wrapA IntKind.u8 (Int.ofNat i
  + (1 : Int)))))))))) T.e T.e) T.e))) (T.n (some (AV.i IntKind.i64 (SS.wrE s (aa i) 64))) (T.n none (T.n none (T.n (some (AV.i IntKind.i64 k)) T.e T.e) (T.n (some (AV.p 0 0)) T.e
  T.e)) (T.n (some (AV.i IntKind.u8 (wrapA IntKind.u8 (Int.ofNat i + (1 : Int))))) (T.n (some (AV.i IntKind.i64 (SS.wrE s (aa i) 64))) T.e T.e) T.e)) (T.n none (T.n (some (AV.b
  (decide (Int.ofNat i < Int.ofNat L)))) (T.n (some (AV.tup [])) T.e T.e) (T.n (some (AV.b false)) T.e T.e)) (T.n (some (AV.b (decide (aa i < (4 : Int))))) (T.n (some (AV.b !decide
  (Int.ofNat (List.length (SS.P (SS.wrS s (aa i) 64 (fB (wrapA IntKind.u8 (Int.ofNat i + (1 : Int))))))) = Int.ofNat tk + (1 : Int)))) T.e T.e) T.e)))) (T.n (some (AV.b false)) (T.n
  (some (AV.i IntKind.i64 (Int.ofNat i))) (T.n none (T.n none (T.n (some (AV.b (decide ((0 : Int) ≤ k)))) T.e T.e) (T.n (some (AV.b !decide (Int.ofNat (SS.wr (SS.wrS s (aa i) 64 (fB
  (wrapA IntKind.u8 (Int.ofNat i + (1 : Int)))))) = Int.ofNat tk + (1 : Int)))) T.e T.e)) (T.n (some (AV.i IntKind.i64 (Int.ofNat i))) (T.n (some (AV.b !SS.off (SS.wrS s (aa i) 64
  (fB (wrapA IntKind.u8 (Int.ofNat i + (1 : Int))))) == true)) T.e T.e) (T.n (some (AV.b false)) T.e T.e))) (T.n none (T.n (some (AV.i IntKind.i64 (Int.ofNat L))) (T.n (some (AV.b
  (decide (Int.ofNat tk = k)))) T.e T.e) (T.n (some (AV.tup [])) T.e T.e)) (T.n (some (AV.i IntKind.i64 (aa i))) (T.n (some (AV.i IntKind.i64 (Int.ofNat tk + (1 : Int)))) T.e T.e)
  T.e))) (T.n (some (AV.b (decide (Int.ofNat tk = k)))) (T.n none (T.n none (T.n (some (AV.b (decide (Int.ofNat tk = k)))) T.e T.e) (T.n (some (AV.i IntKind.i64 (SS.revE (SS.wrS s
  (aa i) 64 (fB (wrapA IntKind.u8 (Int.ofNat i + (1 : Int)))))))) T.e T.e)) (T.n (some (AV.i IntKind.i64 (SS.wrE s (aa i) 64))) (T.n (some (AV.b !decide (SS.wrE s (aa i) 64 = (13 :
  Int)))) T.e T.e) T.e)) (T.n none (T.n (some (AV.pv 1 fun c => CV.i IntKind.i64 (aa i))) (T.n (some (AV.tup [])) T.e T.e) (T.n (some (AV.tup [])) T.e T.e)) (T.n (some (AV.b (decide
  (aa i < (4 : Int))))) (T.n (some (AV.p 0 0)) T.e T.e) T.e)))))) { tree := T.n (some (AObj.segs 73 33799 [{ st := 0, sz := 1, n := 1, f := oneF (CV.i IntKind.i64 (Int.ofNat (SS.n (SS.revived (SS.wrS s (aa i) 64 (fB (wrapA IntKind.u8 (Int.ofNat i + (1 : Int))))) keep false)))) }, { st := 1, sz := 65, n := 512, f := durF (SS.dur (SS.revived (SS.wrS s (aa i) 64 (fB (wrapA IntKind.u8 (Int.ofNat i + (1 : Int))))) keep false)) (SS.torn (SS.revived (SS.wrS s (aa i) 64 (fB (wrapA IntKind.u8 (Int.ofNat i + (1 : Int))))) keep false)) }, { st := 33281, sz := 1, n := 1, f := oneF (CV.opv (pB (SS.P (SS.revived (SS.wrS s (aa i) 64 (fB (wrapA IntKind.u8 (Int.ofNat i + (1 : Int))))) keep false))) 66 (pW (SS.P (SS.revived (SS.wrS s (aa i) 64 (fB (wrapA IntKind.u8 (Int.ofNat i + (1 : Int))))) keep false)))) }, { st := 33282, sz := 1, n := 512, f := latF (lB (SS.P (SS.revived (SS.wrS s (aa i) 64 (fB (wrapA IntKind.u8 (Int.ofNat i + (1 : Int))))) keep false))) (lW (SS.P (SS.revived (SS.wrS s (aa i) 64 (fB (wrapA IntKind.u8 (Int.ofNat i + (1 : Int))))) keep false))) }, { st := 33794, sz := 5, n := 1, f := tailF (Int.ofNat (List.length (SS.P (SS.revived (SS.wrS s (aa i) 64 (fB (wrapA IntKind.u8 (Int.ofNat i + (1 : Int))))) keep false)))) (Int.ofNat (SS.wr (SS.revived (SS.wrS s (aa i) 64 (fB (wrapA IntKind.u8 (Int.ofNat i + (1 : Int))))) keep false))) (SS.off (SS.revived (SS.wrS s (aa i) 64 (fB (wrapA IntKind.u8 (Int.ofNat i + (1 : Int))))) keep false)) (SS.armed (SS.revived (SS.wrS s (aa i) 64 (fB (wrapA IntKind.u8 (Int.ofNat i + (1 : Int))))) keep false)) (Int.ofNat (SS.left (SS.revived (SS.wrS s (aa i) 64 (fB (wrapA IntKind.u8 (Int.ofNat i + (1 : Int))))) keep false))) }])) (T.n (some (AObj.rows 5 1 64 (fF (wrapA IntKind.u8 (Int.ofNat i + (1 : Int)))))) T.e T.e) T.e, next := 2, log := [0, 0, 1] })
  Orc.z))) ∧ ((!!decide (Int.ofNat (List.length (SS.P (SS.wrS s (aa i) 64 (fB (wrapA IntKind.u8 (Int.ofNat i + (1 : Int))))))) = Int.ofNat tk + (1 : Int))) = false → (!!decide
  (Int.ofNat (List.length (SS.P (SS.wrS s (aa i) 64 (fB (wrapA IntKind.u8 (Int.ofNat i + (1 : Int))))))) = Int.ofNat tk + (1 : Int))) = false ∧ (!!decide (Int.ofNat (List.length
  (SS.P (SS.wrS s (aa i) 64 (fB (wrapA IntKind.u8 (Int.ofNat i + (1 : Int))))))) = Int.ofNat tk + (1 : Int))) = false ∧ (!!decide (Int.ofNat (List.length (SS.P (SS.wrS s (aa i) 64
  (fB (wrapA IntKind.u8 (Int.ofNat i + (1 : Int))))))) = Int.ofNat tk + (1 : Int))) = false ∧ (!!decide (Int.ofNat (List.length (SS.P (SS.wrS s (aa i) 64 (fB (wrapA IntKind.u8
  (Int.ofNat i + (1 : Int))))))) = Int.ofNat tk + (1 : Int))) = false ∧ (!decide (Int.ofNat (List.length (SS.P (SS.wrS s (aa i) 64 (fB (wrapA IntKind.u8 (Int.ofNat i + (1 :
  Int))))))) = Int.ofNat tk + (1 : Int))) = true ∧ K (Res.st XO.ret (T.n (some (AV.i IntKind.i64 k)) (T.n none (T.n none (T.n (some (AV.p 0 0)) (T.n none (T.n none (T.n (some (AV.i
  IntKind.i64 k)) T.e T.e) (T.n (some (AV.tup [])) T.e T.e)) (T.n (some (AV.i IntKind.i64 (aa i))) (T.n (some (AV.tup [])) T.e T.e) T.e)) (T.n none (T.n none (T.n (some (AV.p 0 0))
  T.e T.e) T.e) (T.n (some (AV.i IntKind.i64 (aa i))) (T.n (some (AV.p 0 0)) T.e T.e) T.e))) (T.n (some (AV.i IntKind.i64 (aa i))) (T.n none (T.n none (T.n (some (AV.i IntKind.i64
  (Int.ofNat tk))) T.e T.e) (T.n (some (AV.b true)) T.e T.e)) (T.n (some (AV.i IntKind.i64 (Int.ofNat i + (1 : Int)))) (T.n (some (AV.b (decide (Int.ofNat tk = k)))) T.e T.e) T.e))
  (T.n none (T.n (some (AV.i IntKind.i64 (Int.ofNat i))) (T.n (some (AV.tup [])) T.e T.e) T.e) (T.n (some (AV.b (decide (aa i < (4 : Int))))) (T.n (some (AV.b !decide (Int.ofNat
  (List.length (SS.P (SS.wrS s (aa i) 64 (fB (wrapA IntKind.u8 (Int.ofNat i + (1 : Int))))))) = Int.ofNat tk + (1 : Int)))) T.e T.e) T.e)))) (T.n none (T.n (some (AV.i IntKind.i64
  (Int.ofNat tk))) (T.n none (T.n none (T.n (some (AV.b (decide ((0 : Int) ≤ k)))) T.e T.e) (T.n (some (AV.tup [])) T.e T.e)) (T.n (some (AV.i IntKind.i64 (aa i))) (T.n (some (AV.b
  true)) T.e T.e) T.e)) (T.n none (T.n (some (AV.sv 1 L fun i x => CV.i IntKind.i64 (aa i))) (T.n (some (AV.b (decide (Int.ofNat tk = k)))) T.e T.e) T.e) (T.n (some (AV.b (decide
  ((0 : Int) ≤ aa i)))) (T.n (some (AV.i IntKind.i64 (Int.ofNat tk))) T.e T.e) T.e))) (T.n (some (AV.b (decide (aa i < (4 : Int))))) (T.n none (T.n none (T.n (some (AV.b (decide
  (Int.ofNat tk = k)))) T.e T.e) T.e) (T.n (some (AV.lr 1 1 0 64 false)) (T.n (some (AV.b !decide (SS.wrE s (aa i) 64 = (13 : Int)))) T.e T.e) T.e)) (T.n none (T.n (some (AV.i
  IntKind.i64 (Int.ofNat i))) (T.n (some (AV.tup [])) T.e T.e) T.e) (T.n (some (AV.b (decide (aa i < (4 : Int))))) (T.n (some (AV.b !decide (Int.ofNat (List.length (SS.P (SS.wrS s
  (aa i) 64 (fB (wrapA IntKind.u8 (Int.ofNat i + (1 : Int))))))) = Int.ofNat tk + (1 : Int)))) T.e T.e) T.e))))) (T.n (some (AV.i IntKind.i64 keep)) (T.n none (T.n none (T.n none
  (T.n none (T.n (some (AV.b (decide ((0 : Int) ≤ k)))) T.e T.e) (T.n (some (AV.tup [])) T.e T.e)) (T.n (some (AV.p 0 0)) (T.n (some (AV.tup [])) T.e T.e) T.e)) (T.n none (T.n none
  (T.n (some (AV.b (SS.off (SS.wrS s (aa i) 64 (fB (wrapA IntKind.u8 (Int.ofNat i + (1 : Int)))))))) T.e T.e) T.e) (T.n (some (AV.b (decide ((0 : Int) ≤ aa i)))) (T.n (some (AV.i
  IntKind.i64 (Int.ofNat (List.length (SS.P (SS.wrS s (aa i) 64 (fB (wrapA IntKind.u8 (Int.ofNat i + (1 : Int)))))))))) T.e T.e) T.e))) (T.n (some (AV.i IntKind.i64 (SS.wrE s (aa i)
  64))) (T.n none (T.n none (T.n (some (AV.i IntKind.i64 k)) T.e T.e) T.e) (T.n (some (AV.i IntKind.u8 (wrapA IntKind.u8 (Int.ofNat i + (1 : Int))))) (T.n (some (AV.i IntKind.i64
  (SS.wrE s (aa i) 64))) T.e T.e) T.e)) (T.n none (T.n (some (AV.b (decide (Int.ofNat i < Int.ofNat L)))) (T.n (some (AV.tup [])) T.e T.e) T.e) (T.n (some (AV.b (decide (aa i < (4 :
  Int))))) (T.n (some (AV.b !decide (Int.ofNat (List.length (SS.P (SS.wrS s (aa i) 64 (fB (wrapA IntKind.u8 (Int.ofNat i + (1 : Int))))))) = Int.ofNat tk + (1 : Int)))) T.e T.e)
  T.e)))) (T.n (some (AV.b false)) (T.n (some (AV.i IntKind.i64 (Int.ofNat i))) (T.n none (T.n none (T.n (some (AV.b (decide ((0 : Int) ≤ k)))) T.e T.e) (T.n (some (AV.tup [])) T.e
  T.e)) (T.n (some (AV.i IntKind.i64 (Int.ofNat i))) (T.n (some (AV.b !SS.off (SS.wrS s (aa i) 64 (fB (wrapA IntKind.u8 (Int.ofNat i + (1 : Int))))) == true)) T.e T.e) T.e)) (T.n
  none (T.n (some (AV.i IntKind.i64 (Int.ofNat L))) (T.n (some (AV.b (decide (Int.ofNat tk = k)))) T.e T.e) T.e) (T.n (some (AV.i IntKind.i64 (aa i))) (T.n (some (AV.i IntKind.i64
  (Int.ofNat tk + (1 : Int)))) T.e T.e) T.e))) (T.n (some (AV.b (decide (Int.ofNat tk = k)))) (T.n none (T.n none (T.n (some (AV.b (decide (Int.ofNat tk = k)))) T.e T.e) T.e) (T.n
  (some (AV.i IntKind.i64 (SS.wrE s (aa i) 64))) (T.n (some (AV.b !decide (SS.wrE s (aa i) 64 = (13 : Int)))) T.e T.e) T.e)) (T.n none (T.n (some (AV.pv 1 fun c => CV.i IntKind.i64
  (aa i))) (T.n (some (AV.tup [])) T.e T.e) T.e) (T.n (some (AV.b (decide (aa i < (4 : Int))))) (T.n (some (AV.tup [])) T.e T.e) T.e)))))) { tree := T.n (some (AObj.segs 73 33799 [{ st := 0, sz := 1, n := 1, f := oneF (CV.i IntKind.i64 (Int.ofNat (SS.n (SS.wrS s (aa i) 64 (fB (wrapA IntKind.u8 (Int.ofNat i + (1 : Int)))))))) }, { st := 1, sz := 65, n := 512, f := durF (SS.dur (SS.wrS s (aa i) 64 (fB (wrapA IntKind.u8 (Int.ofNat i + (1 : Int)))))) (SS.torn (SS.wrS s (aa i) 64 (fB (wrapA IntKind.u8 (Int.ofNat i + (1 : Int)))))) }, { st := 33281, sz := 1, n := 1, f := oneF (CV.opv (pB (SS.P (SS.wrS s (aa i) 64 (fB (wrapA IntKind.u8 (Int.ofNat i + (1 : Int))))))) 66 (pW (SS.P (SS.wrS s (aa i) 64 (fB (wrapA IntKind.u8 (Int.ofNat i + (1 : Int)))))))) }, { st := 33282, sz := 1, n := 512, f := latF (lB (SS.P (SS.wrS s (aa i) 64 (fB (wrapA IntKind.u8 (Int.ofNat i + (1 : Int))))))) (lW (SS.P (SS.wrS s (aa i) 64 (fB (wrapA IntKind.u8 (Int.ofNat i + (1 : Int))))))) }, { st := 33794, sz := 5, n := 1, f := tailF (Int.ofNat (List.length (SS.P (SS.wrS s (aa i) 64 (fB (wrapA IntKind.u8 (Int.ofNat i + (1 : Int)))))))) (Int.ofNat (SS.wr (SS.wrS s (aa i) 64 (fB (wrapA IntKind.u8 (Int.ofNat i + (1 : Int))))))) (SS.off (SS.wrS s (aa i) 64 (fB (wrapA IntKind.u8 (Int.ofNat i + (1 : Int)))))) (SS.armed (SS.wrS s (aa i) 64 (fB (wrapA IntKind.u8 (Int.ofNat i + (1 : Int)))))) (Int.ofNat (SS.left (SS.wrS s (aa i) 64 (fB (wrapA IntKind.u8 (Int.ofNat i + (1 : Int))))))) }])) (T.n (some (AObj.rows 5 1 64 (fF (wrapA IntKind.u8 (Int.ofNat i + (1 : Int)))))) T.e T.e) T.e, next := 2, log := [0, 1] })
  Orc.z)) ∧ ((!!decide (SS.wrE s (aa i) 64 = (13 : Int))) = false → (!!decide (SS.wrE s (aa i) 64 = (13 : Int))) = false ∧ (!!decide (SS.wrE s (aa i) 64 = (13 : Int))) = false ∧
  (!!decide (SS.wrE s (aa i) 64 = (13 : Int))) = false ∧ (!!decide (SS.wrE s (aa i) 64 = (13 : Int))) = false ∧ (!decide (SS.wrE s (aa i) 64 = (13 : Int))) = true ∧ K (Res.st XO.ret
  (T.n (some (AV.i IntKind.i64 k)) (T.n none (T.n none (T.n (some (AV.p 0 0)) (T.n none (T.n none (T.n (some (AV.i IntKind.i64 k)) T.e T.e) (T.n (some (AV.tup [])) T.e T.e)) (T.n
  (some (AV.i IntKind.i64 (aa i))) (T.n (some (AV.tup [])) T.e T.e) T.e)) (T.n none (T.n none (T.n (some (AV.p 0 0)) T.e T.e) T.e) (T.n (some (AV.i IntKind.i64 (aa i))) (T.n (some
  (AV.tup [])) T.e T.e) T.e))) (T.n (some (AV.i IntKind.i64 (aa i))) (T.n none (T.n none (T.n (some (AV.i IntKind.i64 (Int.ofNat tk))) T.e T.e) (T.n (some (AV.b true)) T.e T.e))
  (T.n (some (AV.i IntKind.i64 (Int.ofNat i + (1 : Int)))) (T.n (some (AV.b (decide (Int.ofNat tk = k)))) T.e T.e) T.e)) (T.n none (T.n (some (AV.i IntKind.i64 (Int.ofNat i))) (T.n
  (some (AV.tup [])) T.e T.e) T.e) (T.n (some (AV.b (decide (aa i < (4 : Int))))) (T.n (some (AV.tup [])) T.e T.e) T.e)))) (T.n none (T.n (some (AV.i IntKind.i64 (Int.ofNat tk)))
  (T.n none (T.n none (T.n (some (AV.b (decide ((0 : Int) ≤ k)))) T.e T.e) (T.n (some (AV.tup [])) T.e T.e)) (T.n (some (AV.i IntKind.i64 (aa i))) (T.n (some (AV.b true)) T.e T.e)
  T.e)) (T.n none (T.n (some (AV.sv 1 L fun i x => CV.i IntKind.i64 (aa i))) (T.n (some (AV.b (decide (Int.ofNat tk = k)))) T.e T.e) T.e) (T.n (some (AV.b (decide ((0 : Int) ≤ aa
  i)))) (T.n (some (AV.tup [])) T.e T.e) T.e))) (T.n (some (AV.b (decide (aa i < (4 : Int))))) (T.n none (T.n none (T.n (some (AV.b (decide (Int.ofNat tk = k)))) T.e T.e) T.e) (T.n
  (some (AV.lr 1 1 0 64 false)) (T.n (some (AV.b !decide (SS.wrE s (aa i) 64 = (13 : Int)))) T.e T.e) T.e)) (T.n none (T.n (some (AV.i IntKind.i64 (Int.ofNat i))) (T.n (some (AV.tup
  [])) T.e T.e) T.e) (T.n (some (AV.b (decide (aa i < (4 : Int))))) (T.n (some (AV.b true)) T.e T.e) T.e))))) (T.n (some (AV.i IntKind.i64 keep)) (T.n none (T.n none (T.n none (T.n
  none (T.n (some (AV.b (decide ((0 : Int) ≤ k)))) T.e T.e) (T.n (some (AV.tup [])) T.e T.e)) (T.n (some (AV.p 0 0)) (T.n (some (AV.tup [])) T.e T.e) T.e)) (T.n none (T.n none (T.n
  (some (AV.b (SS.off (SS.wrS s (aa i) 64 (fB (wrapA IntKind.u8 (Int.ofNat i + (1 : Int)))))))) T.e T.e) T.e) (T.n (some (AV.b (decide ((0 : Int) ≤ aa i)))) (T.n (some (AV.tup []))
  T.e T.e) T.e))) (T.n (some (AV.i IntKind.i64 (SS.wrE s (aa i) 64))) (T.n none (T.n none (T.n (some (AV.i IntKind.i64 k)) T.e T.e) T.e) (T.n (some (AV.i IntKind.u8 (wrapA
  IntKind.u8 (Int.ofNat i + (1 : Int))))) (T.n (some (AV.i IntKind.i64 (SS.wrE s (aa i) 64))) T.e T.e) T.e)) (T.n none (T.n (some (AV.b (decide (Int.ofNat i < Int.ofNat L)))) (T.n
  (some (AV.tup [])) T.e T.e) T.e) (T.n (some (AV.b (decide (aa i < (4 : Int))))) (T.n (some (AV.b true)) T.e T.e) T.e)))) (T.n (some (AV.b false)) (T.n (some (AV.i IntKind.i64
  (Int.ofNat i))) (T.n none (T.n none (T.n (some (AV.b (decide ((0 : Int) ≤ k)))) T.e T.e) (T.n (some (AV.tup [])) T.e T.e)) (T.n (some (AV.i IntKind.i64 (Int.ofNat i))) (T.n (some
  (AV.b !SS.off (SS.wrS s (aa i) 64 (fB (wrapA IntKind.u8 (Int.ofNat i + (1 : Int))))) == true)) T.e T.e) T.e)) (T.n none (T.n (some (AV.i IntKind.i64 (Int.ofNat L))) (T.n (some
  (AV.b (decide (Int.ofNat tk = k)))) T.e T.e) T.e) (T.n (some (AV.i IntKind.i64 (aa i))) (T.n (some (AV.tup [])) T.e T.e) T.e))) (T.n (some (AV.b (decide (Int.ofNat tk = k)))) (T.n
  none (T.n none (T.n (some (AV.b (decide (Int.ofNat tk = k)))) T.e T.e) T.e) (T.n (some (AV.i IntKind.i64 (SS.wrE s (aa i) 64))) (T.n (some (AV.b !decide (SS.wrE s (aa i) 64 = (13
  : Int)))) T.e T.e) T.e)) (T.n none (T.n (some (AV.pv 1 fun c => CV.i IntKind.i64 (aa i))) (T.n (some (AV.tup [])) T.e T.e) T.e) (T.n (some (AV.b (decide (aa i < (4 : Int))))) (T.n
  (some (AV.tup [])) T.e T.e) T.e)))))) { tree := T.n (some (AObj.segs 73 33799 [{ st := 0, sz := 1, n := 1, f := oneF (CV.i IntKind.i64 (Int.ofNat (SS.n (SS.wrS s (aa i) 64 (fB (wrapA IntKind.u8 (Int.ofNat i + (1 : Int)))))))) }, { st := 1, sz := 65, n := 512, f := durF (SS.dur (SS.wrS s (aa i) 64 (fB (wrapA IntKind.u8 (Int.ofNat i + (1 : Int)))))) (SS.torn (SS.wrS s (aa i) 64 (fB (wrapA IntKind.u8 (Int.ofNat i + (1 : Int)))))) }, { st := 33281, sz := 1, n := 1, f := oneF (CV.opv (pB (SS.P (SS.wrS s (aa i) 64 (fB (wrapA IntKind.u8 (Int.ofNat i + (1 : Int))))))) 66 (pW (SS.P (SS.wrS s (aa i) 64 (fB (wrapA IntKind.u8 (Int.ofNat i + (1 : Int)))))))) }, { st := 33282, sz := 1, n := 512, f := latF (lB (SS.P (SS.wrS s (aa i) 64 (fB (wrapA IntKind.u8 (Int.ofNat i + (1 : Int))))))) (lW (SS.P (SS.wrS s (aa i) 64 (fB (wrapA IntKind.u8 (Int.ofNat i + (1 : Int))))))) }, { st := 33794, sz := 5, n := 1, f := tailF (Int.ofNat (List.length (SS.P (SS.wrS s (aa i) 64 (fB (wrapA IntKind.u8 (Int.ofNat i + (1 : Int)))))))) (Int.ofNat (SS.wr (SS.wrS s (aa i) 64 (fB (wrapA IntKind.u8 (Int.ofNat i + (1 : Int))))))) (SS.off (SS.wrS s (aa i) 64 (fB (wrapA IntKind.u8 (Int.ofNat i + (1 : Int)))))) (SS.armed (SS.wrS s (aa i) 64 (fB (wrapA IntKind.u8 (Int.ofNat i + (1 : Int)))))) (Int.ofNat (SS.left (SS.wrS s (aa i) 64 (fB (wrapA IntKind.u8 (Int.ofNat i + (1 : Int))))))) }])) (T.n (some (AObj.rows 5 1 64 (fF (wrapA IntKind.u8 (Int.ofNat i + (1 : Int)))))) T.e T.e) T.e, next := 2, log := [0, 1] })
  Orc.z)))) ∧ (decide ((0 : Int) ≤ k) = false → decide ((0 : Int) ≤ k) = false ∧ decide ((0 : Int) ≤ k) = false ∧ decide ((0 : Int) ≤ k) = false ∧ Con Try.prog 27 [AV.p 0 0] [some
  (SS.o (SS.wrS s (aa i) 64 (fB (wrapA IntKind.u8 (Int.ofNat i + (1 : Int))))))] (AV.b (SS.off (SS.wrS s (aa i) 64 (fB (wrapA IntKind.u8 (Int.ofNat i + (1 : Int))))))) [Upd.keep] ∧
  Con Try.prog 27 [AV.p 0 0] [some (SS.o (SS.wrS s (aa i) 64 (fB (wrapA IntKind.u8 (Int.ofNat i + (1 : Int))))))] (AV.b (SS.off (SS.wrS s (aa i) 64 (fB (wrapA IntKind.u8 (Int.ofNat
  i + (1 : Int))))))) [Upd.keep] ∧ (SS.off (SS.wrS s (aa i) 64 (fB (wrapA IntKind.u8 (Int.ofNat i + (1 : Int))))) = true → SS.off (SS.wrS s (aa i) 64 (fB (wrapA IntKind.u8
  (Int.ofNat i + (1 : Int))))) = true ∧ SS.off (SS.wrS s (aa i) 64 (fB (wrapA IntKind.u8 (Int.ofNat i + (1 : Int))))) = true ∧ True ∧ ((!SS.off (SS.wrS s (aa i) 64 (fB (wrapA
  IntKind.u8 (Int.ofNat i + (1 : Int))))) == decide (SS.wrE s (aa i) 64 = (13 : Int))) = true → K (Res.st XO.ret (T.n (some (AV.i IntKind.i64 k)) (T.n none (T.n none (T.n (some
  (AV.p 0 0)) (T.n none (T.n none (T.n (some (AV.i IntKind.i64 k)) T.e T.e) T.e) (T.n (some (AV.i IntKind.i64 (aa i))) (T.n (some (AV.b (decide (SS.wrE s (aa i) 64 = (13 : Int)))))
  T.e T.e) T.e)) (T.n none (T.n none (T.n (some (AV.p 0 0)) T.e T.e) T.e) (T.n (some (AV.i IntKind.i64 (aa i))) T.e T.e))) (T.n (some (AV.i IntKind.i64 (aa i))) (T.n none (T.n none
  (T.n (some (AV.tup [])) T.e T.e) T.e) (T.n (some (AV.i IntKind.i64 (Int.ofNat i + (1 : Int)))) T.e T.e)) (T.n none (T.n (some (AV.i IntKind.i64 (Int.ofNat i))) (T.n (some (AV.p 0
  0)) T.e T.e) T.e) (T.n (some (AV.b (decide (aa i < (4 : Int))))) T.e T.e)))) (T.n none (T.n (some (AV.i IntKind.i64 (Int.ofNat tk))) (T.n none (T.n none (T.n (some (AV.b (decide
  ((0 : Int) ≤ k)))) T.e T.e) T.e) (T.n (some (AV.i IntKind.i64 (aa i))) (T.n (some (AV.b (decide (SS.wrE s (aa i) 64 = (13 : Int))))) T.e T.e) T.e)) (T.n none (T.n (some (AV.sv 1 L
  fun i x => CV.i IntKind.i64 (aa i))) (T.n (some (AV.b false)) T.e T.e) T.e) (T.n (some (AV.b (decide ((0 : Int) ≤ aa i)))) T.e T.e))) (T.n (some (AV.b (decide (aa i < (4 :
  Int))))) (T.n none (T.n none (T.n (some (AV.tup [])) T.e T.e) T.e) (T.n (some (AV.lr 1 1 0 64 false)) T.e T.e)) (T.n none (T.n (some (AV.i IntKind.i64 (Int.ofNat i))) (T.n (some
  (AV.b (SS.off (SS.wrS s (aa i) 64 (fB (wrapA IntKind.u8 (Int.ofNat i + (1 : Int)))))))) T.e T.e) T.e) (T.n (some (AV.b (decide (aa i < (4 : Int))))) T.e T.e))))) (T.n (some (AV.i
  IntKind.i64 keep)) (T.n none (T.n none (T.n none (T.n none (T.n (some (AV.b (decide ((0 : Int) ≤ k)))) T.e T.e) T.e) (T.n (some (AV.p 0 0)) (T.n (some (AV.b (decide (SS.wrE s (aa
  i) 64 = (13 : Int))))) T.e T.e) T.e)) (T.n none (T.n none (T.n (some (AV.b (SS.off (SS.wrS s (aa i) 64 (fB (wrapA IntKind.u8 (Int.ofNat i + (1 : Int)))))))) T.e T.e) T.e) (T.n
  (some (AV.b (decide ((0 : Int) ≤ aa i)))) T.e T.e))) (T.n (some (AV.i IntKind.i64 (SS.wrE s (aa i) 64))) (T.n none (T.n none (T.n (some (AV.tup [])) T.e T.e) T.e) (T.n (some (AV.i
  IntKind.u8 (wrapA IntKind.u8 (Int.ofNat i + (1 : Int))))) T.e T.e)) (T.n none (T.n (some (AV.b (decide (Int.ofNat i < Int.ofNat L)))) (T.n (some (AV.b (SS.off (SS.wrS s (aa i) 64
  (fB (wrapA IntKind.u8 (Int.ofNat i + (1 : Int)))))))) T.e T.e) T.e) (T.n (some (AV.b (decide (aa i < (4 : Int))))) T.e T.e)))) (T.n (some (AV.b false)) (T.n (some (AV.i
  IntKind.i64 (Int.ofNat i))) (T.n none (T.n none (T.n (some (AV.b (decide ((0 : Int) ≤ k)))) T.e T.e) T.e) (T.n (some (AV.i IntKind.i64 (Int.ofNat i))) (T.n (some (AV.b !SS.off
  (SS.wrS s (aa i) 64 (fB (wrapA IntKind.u8 (Int.ofNat i + (1 : Int))))) == decide (SS.wrE s (aa i) 64 = (13 : Int)))) T.e T.e) T.e)) (T.n none (T.n (some (AV.i IntKind.i64
  (Int.ofNat L))) (T.n (some (AV.b false)) T.e T.e) T.e) (T.n (some (AV.i IntKind.i64 (aa i))) T.e T.e))) (T.n (some (AV.b false)) (T.n none (T.n none (T.n (some (AV.b false)) T.e
  T.e) T.e) (T.n (some (AV.i IntKind.i64 (SS.wrE s (aa i) 64))) T.e T.e)) (T.n none (T.n (some (AV.pv 1 fun c => CV.i IntKind.i64 (aa i))) (T.n (some (AV.i IntKind.i64 (SS.wrE s (aa
  i) 64))) T.e T.e) T.e) (T.n (some (AV.b (decide (aa i < (4 : Int))))) T.e T.e)))))) { tree := T.n (some (AObj.segs 73 33799 [{ st := 0, sz := 1, n := 1, f := oneF (CV.i IntKind.i64 (Int.ofNat (SS.n (SS.wrS s (aa i) 64 (fB (wrapA IntKind.u8 (Int.ofNat i + (1 : Int)))))))) }, { st := 1, sz := 65, n := 512, f := durF (SS.dur (SS.wrS s (aa i) 64 (fB (wrapA IntKind.u8 (Int.ofNat i + (1 : Int)))))) (SS.torn (SS.wrS s (aa i) 64 (fB (wrapA IntKind.u8 (Int.ofNat i + (1 : Int)))))) }, { st := 33281, sz := 1, n := 1, f := oneF (CV.opv (pB (SS.P (SS.wrS s (aa i) 64 (fB (wrapA IntKind.u8 (Int.ofNat i + (1 : Int))))))) 66 (pW (SS.P (SS.wrS s (aa i) 64 (fB (wrapA IntKind.u8 (Int.ofNat i + (1 : Int)))))))) }, { st := 33282, sz := 1, n := 512, f := latF (lB (SS.P (SS.wrS s (aa i) 64 (fB (wrapA IntKind.u8 (Int.ofNat i + (1 : Int))))))) (lW (SS.P (SS.wrS s (aa i) 64 (fB (wrapA IntKind.u8 (Int.ofNat i + (1 : Int))))))) }, { st := 33794, sz := 5, n := 1, f := tailF (Int.ofNat (List.length (SS.P (SS.wrS s (aa i) 64 (fB (wrapA IntKind.u8 (Int.ofNat i + (1 : Int)))))))) (Int.ofNat (SS.wr (SS.wrS s (aa i) 64 (fB (wrapA IntKind.u8 (Int.ofNat i + (1 : Int))))))) (SS.off (SS.wrS s (aa i) 64 (fB (wrapA IntKind.u8 (Int.ofNat i + (1 : Int)))))) (SS.armed (SS.wrS s (aa i) 64 (fB (wrapA IntKind.u8 (Int.ofNat i + (1 : Int)))))) (Int.ofNat (SS.left (SS.wrS s (aa i) 64 (fB (wrapA IntKind.u8 (Int.ofNat i + (1 : Int))))))) }])) (T.n (some (AObj.rows 5 1 64 (fF (wrapA IntKind.u8 (Int.ofNat i + (1 : Int)))))) T.e T.e) T.e, next := 2, log := [0, 1] })
  Orc.z) ∧ ((!SS.off (SS.wrS s (aa i) 64 (fB (wrapA IntKind.u8 (Int.ofNat i + (1 : Int))))) == decide (SS.wrE s (aa i) 64 = (13 : Int))) = false → True ∧ ((!!decide (aa i < (4 :
  Int)) == decide (SS.wrE s (aa i) 64 = (0 : Int))) = true → (!!decide (aa i < (4 : Int)) == decide (SS.wrE s (aa i) 64 = (0 : Int))) = true ∧ True ∧ (!!decide (aa i < (4 : Int)) ==
  decide (SS.wrE s (aa i) 64 = (0 : Int))) = true ∧ (!decide (aa i < (4 : Int))) = false ∧ (!decide (aa i < (4 : Int))) = false ∧ (!!decide (aa i < (4 : Int)) == decide (SS.wrE s
  (aa i) 64 = (0 : Int))) = true ∧ (!decide (aa i < (4 : Int))) = false ∧ (!decide (aa i < (4 : Int)) == decide (SS.wrE s (aa i) 64 = (0 : Int))) = false ∧ decide (aa i < (4 : Int))
  = true ∧ ((-9223372036854775808 : Int) ≤ Int.ofNat tk + (1 : Int) ∧ Int.ofNat tk + (1 : Int) ≤ (9223372036854775807 : Int)) ∧ ((-9223372036854775808 : Int) ≤ Int.ofNat i + (1 :
  Int) ∧ Int.ofNat i + (1 : Int) ≤ (9223372036854775807 : Int)) ∧ K (Res.st XO.nrm (T.n (some (AV.i IntKind.i64 k)) (T.n none (T.n none (T.n (some (AV.p 0 0)) (T.n none (T.n none
  (T.n (some (AV.i IntKind.i64 k)) (T.n (some (AV.b (decide (aa i < (4 : Int))))) T.e T.e) T.e) T.e) (T.n (some (AV.i IntKind.i64 (aa i))) (T.n (some (AV.b (decide (SS.wrE s (aa i)
  64 = (13 : Int))))) T.e T.e) T.e)) (T.n none (T.n none (T.n (some (AV.p 0 0)) T.e T.e) T.e) (T.n (some (AV.i IntKind.i64 (aa i))) T.e (T.n (some (AV.b !decide (aa i < (4 : Int))
  == decide (SS.wrE s (aa i) 64 = (0 : Int)))) T.e T.e)))) (T.n (some (AV.i IntKind.i64 (aa i))) (T.n none (T.n none (T.n (some (AV.tup [])) T.e T.e) T.e) (T.n (some (AV.i
  IntKind.i64 (Int.ofNat i + (1 : Int)))) (T.n (some (AV.b false)) T.e T.e) (T.n (some (AV.b (decide (aa i < (4 : Int))))) T.e T.e))) (T.n none (T.n (some (AV.i IntKind.i64
  (Int.ofNat i + (1 : Int)))) (T.n (some (AV.p 0 0)) T.e T.e) T.e) (T.n (some (AV.b (decide (aa i < (4 : Int))))) T.e (T.n (some (AV.tup [])) T.e T.e))))) (T.n none (T.n (some (AV.i
  IntKind.i64 (Int.ofNat tk + (1 : Int)))) (T.n none (T.n none (T.n (some (AV.b (decide ((0 : Int) ≤ k)))) (T.n (some (AV.i IntKind.i64 (Int.ofNat tk + (1 : Int)))) T.e T.e) T.e)
  T.e) (T.n (some (AV.i IntKind.i64 (aa i))) (T.n (some (AV.b (decide (SS.wrE s (aa i) 64 = (13 : Int))))) T.e T.e) T.e)) (T.n none (T.n (some (AV.sv 1 L fun i x => CV.i IntKind.i64
  (aa i))) (T.n (some (AV.b false)) T.e T.e) T.e) (T.n (some (AV.b (decide ((0 : Int) ≤ aa i)))) T.e (T.n (some (AV.b !decide (aa i < (4 : Int)))) T.e T.e)))) (T.n (some (AV.b
  (decide (aa i < (4 : Int))))) (T.n none (T.n none (T.n (some (AV.tup [])) T.e T.e) T.e) (T.n (some (AV.lr 1 1 0 64 false)) T.e (T.n (some (AV.b (decide (SS.wrE s (aa i) 64 = (0 :
  Int))))) T.e T.e))) (T.n none (T.n (some (AV.i IntKind.i64 (Int.ofNat i))) (T.n (some (AV.b (SS.off (SS.wrS s (aa i) 64 (fB (wrapA IntKind.u8 (Int.ofNat i + (1 : Int)))))))) T.e
  T.e) T.e) (T.n (some (AV.b (decide (aa i < (4 : Int))))) T.e (T.n (some (AV.b false)) T.e T.e)))))) (T.n (some (AV.i IntKind.i64 keep)) (T.n none (T.n none (T.n none (T.n none
  (T.n (some (AV.b (decide ((0 : Int) ≤ k)))) (T.n (some (AV.i IntKind.i64 (Int.ofNat tk))) T.e T.e) T.e) T.e) (T.n (some (AV.p 0 0)) (T.n (some (AV.b (decide (SS.wrE s (aa i) 64 =
  (13 : Int))))) T.e T.e) T.e)) (T.n none (T.n none (T.n (some (AV.b (SS.off (SS.wrS s (aa i) 64 (fB (wrapA IntKind.u8 (Int.ofNat i + (1 : Int)))))))) T.e T.e) T.e) (T.n (some (AV.b
  (decide ((0 : Int) ≤ aa i)))) T.e (T.n (some (AV.b (decide (aa i < (4 : Int))))) T.e T.e)))) (T.n (some (AV.i IntKind.i64 (SS.wrE s (aa i) 64))) (T.n none (T.n none (T.n (some
  (AV.tup [])) T.e T.e) T.e) (T.n (some (AV.i IntKind.u8 (wrapA IntKind.u8 (Int.ofNat i + (1 : Int))))) T.e (T.n (some (AV.i IntKind.i64 (SS.wrE s (aa i) 64))) T.e T.e))) (T.n none
  (T.n (some (AV.b (decide (Int.ofNat i < Int.ofNat L)))) (T.n (some (AV.b (SS.off (SS.wrS s (aa i) 64 (fB (wrapA IntKind.u8 (Int.ofNat i + (1 : Int)))))))) T.e T.e) T.e) (T.n (some
  (AV.b (decide (aa i < (4 : Int))))) T.e (T.n (some (AV.tup [])) T.e T.e))))) (T.n none (T.n (some (AV.i IntKind.i64 (Int.ofNat i))) (T.n none (T.n none (T.n (some (AV.b (decide
  ((0 : Int) ≤ k)))) (T.n (some (AV.i IntKind.i64 (Int.ofNat i + (1 : Int)))) T.e T.e) T.e) T.e) (T.n (some (AV.i IntKind.i64 (Int.ofNat i))) (T.n (some (AV.b !SS.off (SS.wrS s (aa
  i) 64 (fB (wrapA IntKind.u8 (Int.ofNat i + (1 : Int))))) == decide (SS.wrE s (aa i) 64 = (13 : Int)))) T.e T.e) T.e)) (T.n none (T.n (some (AV.i IntKind.i64 (Int.ofNat L))) (T.n
  (some (AV.b false)) T.e T.e) T.e) (T.n (some (AV.i IntKind.i64 (aa i))) T.e (T.n (some (AV.b !decide (aa i < (4 : Int)))) T.e T.e)))) (T.n (some (AV.b false)) (T.n none (T.n none
  (T.n (some (AV.b false)) T.e T.e) T.e) (T.n (some (AV.i IntKind.i64 (SS.wrE s (aa i) 64))) T.e (T.n (some (AV.b !decide (aa i < (4 : Int)) == decide (SS.wrE s (aa i) 64 = (0 :
  Int)))) T.e T.e))) (T.n none (T.n (some (AV.pv 1 fun c => CV.i IntKind.i64 (aa i))) (T.n (some (AV.i IntKind.i64 (SS.wrE s (aa i) 64))) T.e T.e) T.e) (T.n (some (AV.b (decide (aa
  i < (4 : Int))))) T.e (T.n (some (AV.b false)) T.e T.e))))))) { tree := T.n (some (AObj.segs 73 33799 [{ st := 0, sz := 1, n := 1, f := oneF (CV.i IntKind.i64 (Int.ofNat (SS.n (SS.wrS s (aa i) 64 (fB (wrapA IntKind.u8 (Int.ofNat i + (1 : Int)))))))) }, { st := 1, sz := 65, n := 512, f := durF (SS.dur (SS.wrS s (aa i) 64 (fB (wrapA IntKind.u8 (Int.ofNat i + (1 : Int)))))) (SS.torn (SS.wrS s (aa i) 64 (fB (wrapA IntKind.u8 (Int.ofNat i + (1 : Int)))))) }, { st := 33281, sz := 1, n := 1, f := oneF (CV.opv (pB (SS.P (SS.wrS s (aa i) 64 (fB (wrapA IntKind.u8 (Int.ofNat i + (1 : Int))))))) 66 (pW (SS.P (SS.wrS s (aa i) 64 (fB (wrapA IntKind.u8 (Int.ofNat i + (1 : Int)))))))) }, { st := 33282, sz := 1, n := 512, f := latF (lB (SS.P (SS.wrS s (aa i) 64 (fB (wrapA IntKind.u8 (Int.ofNat i + (1 : Int))))))) (lW (SS.P (SS.wrS s (aa i) 64 (fB (wrapA IntKind.u8 (Int.ofNat i + (1 : Int))))))) }, { st := 33794, sz := 5, n := 1, f := tailF (Int.ofNat (List.length (SS.P (SS.wrS s (aa i) 64 (fB (wrapA IntKind.u8 (Int.ofNat i + (1 : Int)))))))) (Int.ofNat (SS.wr (SS.wrS s (aa i) 64 (fB (wrapA IntKind.u8 (Int.ofNat i + (1 : Int))))))) (SS.off (SS.wrS s (aa i) 64 (fB (wrapA IntKind.u8 (Int.ofNat i + (1 : Int)))))) (SS.armed (SS.wrS s (aa i) 64 (fB (wrapA IntKind.u8 (Int.ofNat i + (1 : Int)))))) (Int.ofNat (SS.left (SS.wrS s (aa i) 64 (fB (wrapA IntKind.u8 (Int.ofNat i + (1 : Int))))))) }])) (T.n (some (AObj.rows 5 1 64 (fF (wrapA IntKind.u8 (Int.ofNat i + (1 : Int)))))) T.e T.e) T.e, next := 2, log := [0, 1] })
  Orc.z) ∧ ((!!decide (aa i < (4 : Int)) == decide (SS.wrE s (aa i) 64 = (0 : Int))) = false → (!!decide (aa i < (4 : Int)) == decide (SS.wrE s (aa i) 64 = (0 : Int))) = false ∧
  (!!decide (aa i < (4 : Int)) == decide (SS.wrE s (aa i) 64 = (0 : Int))) = false ∧ (!!decide (aa i < (4 : Int)) == decide (SS.wrE s (aa i) 64 = (0 : Int))) = false ∧ (!decide (aa
  i < (4 : Int)) == decide (SS.wrE s (aa i) 64 = (0 : Int))) = true ∧ K (Res.st XO.ret (T.n (some (AV.i IntKind.i64 k)) (T.n none (T.n none (T.n (some (AV.p 0 0)) (T.n none (T.n
  none (T.n (some (AV.i IntKind.i64 k)) T.e T.e) T.e) (T.n (some (AV.i IntKind.i64 (aa i))) (T.n (some (AV.b (decide (SS.wrE s (aa i) 64 = (13 : Int))))) T.e T.e) T.e)) (T.n none
  (T.n none (T.n (some (AV.p 0 0)) T.e T.e) T.e) (T.n (some (AV.i IntKind.i64 (aa i))) T.e (T.n (some (AV.b !decide (aa i < (4 : Int)) == decide (SS.wrE s (aa i) 64 = (0 : Int))))
  T.e T.e)))) (T.n (some (AV.i IntKind.i64 (aa i))) (T.n none (T.n none (T.n (some (AV.tup [])) T.e T.e) T.e) (T.n (some (AV.i IntKind.i64 (Int.ofNat i + (1 : Int)))) (T.n (some
  (AV.b false)) T.e T.e) (T.n (some (AV.b (decide (aa i < (4 : Int))))) T.e T.e))) (T.n none (T.n (some (AV.i IntKind.i64 (Int.ofNat i))) (T.n (some (AV.p 0 0)) T.e T.e) T.e) (T.n
  (some (AV.b (decide (aa i < (4 : Int))))) T.e (T.n (some (AV.tup [])) T.e T.e))))) (T.n none (T.n (some (AV.i IntKind.i64 (Int.ofNat tk))) (T.n none (T.n none (T.n (some (AV.b
  (decide ((0 : Int) ≤ k)))) T.e T.e) T.e) (T.n (some (AV.i IntKind.i64 (aa i))) (T.n (some (AV.b (decide (SS.wrE s (aa i) 64 = (13 : Int))))) T.e T.e) T.e)) (T.n none (T.n (some
  (AV.sv 1 L fun i x => CV.i IntKind.i64 (aa i))) (T.n (some (AV.b false)) T.e T.e) T.e) (T.n (some (AV.b (decide ((0 : Int) ≤ aa i)))) T.e (T.n (some (AV.tup [])) T.e T.e)))) (T.n
  (some (AV.b (decide (aa i < (4 : Int))))) (T.n none (T.n none (T.n (some (AV.tup [])) T.e T.e) T.e) (T.n (some (AV.lr 1 1 0 64 false)) T.e (T.n (some (AV.b (decide (SS.wrE s (aa
  i) 64 = (0 : Int))))) T.e T.e))) (T.n none (T.n (some (AV.i IntKind.i64 (Int.ofNat i))) (T.n (some (AV.b (SS.off (SS.wrS s (aa i) 64 (fB (wrapA IntKind.u8 (Int.ofNat i + (1 :
  Int)))))))) T.e T.e) T.e) (T.n (some (AV.b (decide (aa i < (4 : Int))))) T.e (T.n (some (AV.tup [])) T.e T.e)))))) (T.n (some (AV.i IntKind.i64 keep)) (T.n none (T.n none (T.n
  none (T.n none (T.n (some (AV.b (decide ((0 : Int) ≤ k)))) T.e T.e) T.e) (T.n (some (AV.p 0 0)) (T.n (some (AV.b (decide (SS.wrE s (aa i) 64 = (13 : Int))))) T.e T.e) T.e)) (T.n
  none (T.n none (T.n (some (AV.b (SS.off (SS.wrS s (aa i) 64 (fB (wrapA IntKind.u8 (Int.ofNat i + (1 : Int)))))))) T.e T.e) T.e) (T.n (some (AV.b (decide ((0 : Int) ≤ aa i)))) T.e
  (T.n (some (AV.tup [])) T.e T.e)))) (T.n (some (AV.i IntKind.i64 (SS.wrE s (aa i) 64))) (T.n none (T.n none (T.n (some (AV.tup [])) T.e T.e) T.e) (T.n (some (AV.i IntKind.u8
  (wrapA IntKind.u8 (Int.ofNat i + (1 : Int))))) T.e (T.n (some (AV.i IntKind.i64 (SS.wrE s (aa i) 64))) T.e T.e))) (T.n none (T.n (some (AV.b (decide (Int.ofNat i < Int.ofNat L))))
  (T.n (some (AV.b (SS.off (SS.wrS s (aa i) 64 (fB (wrapA IntKind.u8 (Int.ofNat i + (1 : Int)))))))) T.e T.e) T.e) (T.n (some (AV.b (decide (aa i < (4 : Int))))) T.e (T.n (some
  (AV.tup [])) T.e T.e))))) (T.n (some (AV.b false)) (T.n (some (AV.i IntKind.i64 (Int.ofNat i))) (T.n none (T.n none (T.n (some (AV.b (decide ((0 : Int) ≤ k)))) T.e T.e) T.e) (T.n
  (some (AV.i IntKind.i64 (Int.ofNat i))) (T.n (some (AV.b !SS.off (SS.wrS s (aa i) 64 (fB (wrapA IntKind.u8 (Int.ofNat i + (1 : Int))))) == decide (SS.wrE s (aa i) 64 = (13 :
  Int)))) T.e T.e) T.e)) (T.n none (T.n (some (AV.i IntKind.i64 (Int.ofNat L))) (T.n (some (AV.b false)) T.e T.e) T.e) (T.n (some (AV.i IntKind.i64 (aa i))) T.e (T.n (some (AV.tup
  [])) T.e T.e)))) (T.n (some (AV.b false)) (T.n none (T.n none (T.n (some (AV.b false)) T.e T.e) T.e) (T.n (some (AV.i IntKind.i64 (SS.wrE s (aa i) 64))) T.e (T.n (some (AV.b
  !decide (aa i < (4 : Int)) == decide (SS.wrE s (aa i) 64 = (0 : Int)))) T.e T.e))) (T.n none (T.n (some (AV.pv 1 fun c => CV.i IntKind.i64 (aa i))) (T.n (some (AV.i IntKind.i64
  (SS.wrE s (aa i) 64))) T.e T.e) T.e) (T.n (some (AV.b (decide (aa i < (4 : Int))))) T.e (T.n (some (AV.b true)) T.e T.e))))))) { tree := T.n (some (AObj.segs 73 33799 [{ st := 0, sz := 1, n := 1, f := oneF (CV.i IntKind.i64 (Int.ofNat (SS.n (SS.wrS s (aa i) 64 (fB (wrapA IntKind.u8 (Int.ofNat i + (1 : Int)))))))) }, { st := 1, sz := 65, n := 512, f := durF (SS.dur (SS.wrS s (aa i) 64 (fB (wrapA IntKind.u8 (Int.ofNat i + (1 : Int)))))) (SS.torn (SS.wrS s (aa i) 64 (fB (wrapA IntKind.u8 (Int.ofNat i + (1 : Int)))))) }, { st := 33281, sz := 1, n := 1, f := oneF (CV.opv (pB (SS.P (SS.wrS s (aa i) 64 (fB (wrapA IntKind.u8 (Int.ofNat i + (1 : Int))))))) 66 (pW (SS.P (SS.wrS s (aa i) 64 (fB (wrapA IntKind.u8 (Int.ofNat i + (1 : Int)))))))) }, { st := 33282, sz := 1, n := 512, f := latF (lB (SS.P (SS.wrS s (aa i) 64 (fB (wrapA IntKind.u8 (Int.ofNat i + (1 : Int))))))) (lW (SS.P (SS.wrS s (aa i) 64 (fB (wrapA IntKind.u8 (Int.ofNat i + (1 : Int))))))) }, { st := 33794, sz := 5, n := 1, f := tailF (Int.ofNat (List.length (SS.P (SS.wrS s (aa i) 64 (fB (wrapA IntKind.u8 (Int.ofNat i + (1 : Int)))))))) (Int.ofNat (SS.wr (SS.wrS s (aa i) 64 (fB (wrapA IntKind.u8 (Int.ofNat i + (1 : Int))))))) (SS.off (SS.wrS s (aa i) 64 (fB (wrapA IntKind.u8 (Int.ofNat i + (1 : Int)))))) (SS.armed (SS.wrS s (aa i) 64 (fB (wrapA IntKind.u8 (Int.ofNat i + (1 : Int)))))) (Int.ofNat (SS.left (SS.wrS s (aa i) 64 (fB (wrapA IntKind.u8 (Int.ofNat i + (1 : Int))))))) }])) (T.n (some (AObj.rows 5 1 64 (fF (wrapA IntKind.u8 (Int.ofNat i + (1 : Int)))))) T.e T.e) T.e, next := 2, log := [0, 1] })
  Orc.z))) ∧ (SS.off (SS.wrS s (aa i) 64 (fB (wrapA IntKind.u8 (Int.ofNat i + (1 : Int))))) = false → SS.off (SS.wrS s (aa i) 64 (fB (wrapA IntKind.u8 (Int.ofNat i + (1 : Int))))) =
  false ∧ SS.off (SS.wrS s (aa i) 64 (fB (wrapA IntKind.u8 (Int.ofNat i + (1 : Int))))) = false ∧ True ∧ (!SS.off (SS.wrS s (aa i) 64 (fB (wrapA IntKind.u8 (Int.ofNat i + (1 :
  Int))))) == false) = false ∧ True ∧ ((!!decide (aa i < (4 : Int)) == decide (SS.wrE s (aa i) 64 = (0 : Int))) = true → (!!decide (aa i < (4 : Int)) == decide (SS.wrE s (aa i) 64 =
  (0 : Int))) = true ∧ True ∧ (!!decide (aa i < (4 : Int)) == decide (SS.wrE s (aa i) 64 = (0 : Int))) = true ∧ (!decide (aa i < (4 : Int))) = false ∧ (!decide (aa i < (4 : Int))) =
  false ∧ (!!decide (aa i < (4 : Int)) == decide (SS.wrE s (aa i) 64 = (0 : Int))) = true ∧ (!decide (aa i < (4 : Int))) = false ∧ (!decide (aa i < (4 : Int)) == decide (SS.wrE s
  (aa i) 64 = (0 : Int))) = false ∧ decide (aa i < (4 : Int)) = true ∧ ((-9223372036854775808 : Int) ≤ Int.ofNat tk + (1 : Int) ∧ Int.ofNat tk + (1 : Int) ≤ (9223372036854775807 :
  Int)) ∧ ((-9223372036854775808 : Int) ≤ Int.ofNat i + (1 : Int) ∧ Int.ofNat i + (1 : Int) ≤ (9223372036854775807 : Int)) ∧ K (Res.st XO.nrm (T.n (some (AV.i IntKind.i64 k)) (T.n
  none (T.n none (T.n (some (AV.p 0 0)) (T.n none (T.n none (T.n (some (AV.i IntKind.i64 k)) (T.n (some (AV.b (decide (aa i < (4 : Int))))) T.e T.e) T.e) T.e) (T.n (some (AV.i
  IntKind.i64 (aa i))) (T.n (some (AV.tup [])) T.e T.e) T.e)) (T.n none (T.n none (T.n (some (AV.p 0 0)) T.e T.e) T.e) (T.n (some (AV.i IntKind.i64 (aa i))) T.e (T.n (some (AV.b
  !decide (aa i < (4 : Int)) == decide (SS.wrE s (aa i) 64 = (0 : Int)))) T.e T.e)))) (T.n (some (AV.i IntKind.i64 (aa i))) (T.n none (T.n none (T.n (some (AV.tup [])) T.e T.e) T.e)
  (T.n (some (AV.i IntKind.i64 (Int.ofNat i + (1 : Int)))) (T.n (some (AV.b false)) T.e T.e) (T.n (some (AV.b (decide (aa i < (4 : Int))))) T.e T.e))) (T.n none (T.n (some (AV.i
  IntKind.i64 (Int.ofNat i + (1 : Int)))) (T.n (some (AV.p 0 0)) T.e T.e) T.e) (T.n (some (AV.b (decide (aa i < (4 : Int))))) T.e (T.n (some (AV.tup [])) T.e T.e))))) (T.n none (T.n
  (some (AV.i IntKind.i64 (Int.ofNat tk + (1 : Int)))) (T.n none (T.n none (T.n (some (AV.b (decide ((0 : Int) ≤ k)))) (T.n (some (AV.i IntKind.i64 (Int.ofNat tk + (1 : Int)))) T.e
  T.e) T.e) T.e) (T.n (some (AV.i IntKind.i64 (aa i))) (T.n (some (AV.b false)) T.e T.e) T.e)) (T.n none (T.n (some (AV.sv 1 L fun i x => CV.i IntKind.i64 (aa i))) (T.n (some (AV.b
  false)) T.e T.e) T.e) (T.n (some (AV.b (decide ((0 : Int) ≤ aa i)))) T.e (T.n (some (AV.b !decide (aa i < (4 : Int)))) T.e T.e)))) (T.n (some (AV.b (decide (aa i < (4 : Int)))))
  (T.n none (T.n none (T.n (some (AV.tup [])) T.e T.e) T.e) (T.n (some (AV.lr 1 1 0 64 false)) T.e (T.n (some (AV.b (decide (SS.wrE s (aa i) 64 = (0 : Int))))) T.e T.e))) (T.n none
  (T.n (some (AV.i IntKind.i64 (Int.ofNat i))) (T.n (some (AV.b (SS.off (SS.wrS s (aa i) 64 (fB (wrapA IntKind.u8 (Int.ofNat i + (1 : Int)))))))) T.e T.e) T.e) (T.n (some (AV.b
  (decide (aa i < (4 : Int))))) T.e (T.n (some (AV.b false)) T.e T.e)))))) (T.n (some (AV.i IntKind.i64 keep)) (T.n none (T.n none (T.n none (T.n none (T.n (some (AV.b (decide ((0 :
  Int) ≤ k)))) (T.n (some (AV.i IntKind.i64 (Int.ofNat tk))) T.e T.e) T.e) T.e) (T.n (some (AV.p 0 0)) (T.n (some (AV.b false)) T.e T.e) T.e)) (T.n none (T.n none (T.n (some (AV.b
  (SS.off (SS.wrS s (aa i) 64 (fB (wrapA IntKind.u8 (Int.ofNat i + (1 : Int)))))))) T.e T.e) T.e) (T.n (some (AV.b (decide ((0 : Int) ≤ aa i)))) T.e (T.n (some (AV.b (decide (aa i <
  (4 : Int))))) T.e T.e)))) (T.n (some (AV.i IntKind.i64 (SS.wrE s (aa i) 64))) (T.n none (T.n none (T.n (some (AV.tup [])) T.e T.e) T.e) (T.n (some (AV.i IntKind.u8 (wrapA
  IntKind.u8 (Int.ofNat i + (1 : Int))))) T.e (T.n (some (AV.i IntKind.i64 (SS.wrE s (aa i) 64))) T.e T.e))) (T.n none (T.n (some (AV.b (decide (Int.ofNat i < Int.ofNat L)))) (T.n
  (some (AV.b (SS.off (SS.wrS s (aa i) 64 (fB (wrapA IntKind.u8 (Int.ofNat i + (1 : Int)))))))) T.e T.e) T.e) (T.n (some (AV.b (decide (aa i < (4 : Int))))) T.e (T.n (some (AV.tup
  [])) T.e T.e))))) (T.n none (T.n (some (AV.i IntKind.i64 (Int.ofNat i))) (T.n none (T.n none (T.n (some (AV.b (decide ((0 : Int) ≤ k)))) (T.n (some (AV.i IntKind.i64 (Int.ofNat i
  + (1 : Int)))) T.e T.e) T.e) T.e) (T.n (some (AV.i IntKind.i64 (Int.ofNat i))) (T.n (some (AV.b !SS.off (SS.wrS s (aa i) 64 (fB (wrapA IntKind.u8 (Int.ofNat i + (1 : Int))))) ==
  false)) T.e T.e) T.e)) (T.n none (T.n (some (AV.i IntKind.i64 (Int.ofNat L))) (T.n (some (AV.b false)) T.e T.e) T.e) (T.n (some (AV.i IntKind.i64 (aa i))) T.e (T.n (some (AV.b
  !decide (aa i < (4 : Int)))) T.e T.e)))) (T.n (some (AV.b false)) (T.n none (T.n none (T.n (some (AV.b false)) T.e T.e) T.e) (T.n (some (AV.i IntKind.i64 (SS.wrE s (aa i) 64)))
  T.e (T.n (some (AV.b !decide (aa i < (4 : Int)) == decide (SS.wrE s (aa i) 64 = (0 : Int)))) T.e T.e))) (T.n none (T.n (some (AV.pv 1 fun c => CV.i IntKind.i64 (aa i))) (T.n (some
  (AV.tup [])) T.e T.e) T.e) (T.n (some (AV.b (decide (aa i < (4 : Int))))) T.e (T.n (some (AV.b false)) T.e T.e))))))) { tree := T.n (some (AObj.segs 73 33799 [{ st := 0, sz := 1, n := 1, f := oneF (CV.i IntKind.i64 (Int.ofNat (SS.n (SS.wrS s (aa i) 64 (fB (wrapA IntKind.u8 (Int.ofNat i + (1 : Int)))))))) }, { st := 1, sz := 65, n := 512, f := durF (SS.dur (SS.wrS s (aa i) 64 (fB (wrapA IntKind.u8 (Int.ofNat i + (1 : Int)))))) (SS.torn (SS.wrS s (aa i) 64 (fB (wrapA IntKind.u8 (Int.ofNat i + (1 : Int)))))) }, { st := 33281, sz := 1, n := 1, f := oneF (CV.opv (pB (SS.P (SS.wrS s (aa i) 64 (fB (wrapA IntKind.u8 (Int.ofNat i + (1 : Int))))))) 66 (pW (SS.P (SS.wrS s (aa i) 64 (fB (wrapA IntKind.u8 (Int.ofNat i + (1 : Int)))))))) }, { st := 33282, sz := 1, n := 512, f := latF (lB (SS.P (SS.wrS s (aa i) 64 (fB (wrapA IntKind.u8 (Int.ofNat i + (1 : Int))))))) (lW (SS.P (SS.wrS s (aa i) 64 (fB (wrapA IntKind.u8 (Int.ofNat i + (1 : Int))))))) }, { st := 33794, sz := 5, n := 1, f := tailF (Int.ofNat (List.length (SS.P (SS.wrS s (aa i) 64 (fB (wrapA IntKind.u8 (Int.ofNat i + (1 : Int)))))))) (Int.ofNat (SS.wr (SS.wrS s (aa i) 64 (fB (wrapA IntKind.u8 (Int.ofNat i + (1 : Int))))))) (SS.off (SS.wrS s (aa i) 64 (fB (wrapA IntKind.u8 (Int.ofNat i + (1 : Int)))))) (SS.armed (SS.wrS s (aa i) 64 (fB (wrapA IntKind.u8 (Int.ofNat i + (1 : Int)))))) (Int.ofNat (SS.left (SS.wrS s (aa i) 64 (fB (wrapA IntKind.u8 (Int.ofNat i + (1 : Int))))))) }])) (T.n (some (AObj.rows 5 1 64 (fF (wrapA IntKind.u8 (Int.ofNat i + (1 : Int)))))) T.e T.e) T.e, next := 2, log := [0, 1] })
  Orc.z) ∧ ((!!decide (aa i < (4 : Int)) == decide (SS.wrE s (aa i) 64 = (0 : Int))) = false → (!!decide (aa i < (4 : Int)) == decide (SS.wrE s (aa i) 64 = (0 : Int))) = false ∧
  (!!decide (aa i < (4 : Int)) == decide (SS.wrE s (aa i) 64 = (0 : Int))) = false ∧ (!!decide (aa i < (4 : Int)) == decide (SS.wrE s (aa i) 64 = (0 : Int))) = false ∧ (!decide (aa
  i < (4 : Int)) == decide (SS.wrE s (aa i) 64 = (0 : Int))) = true ∧ K (Res.st XO.ret (T.n (some (AV.i IntKind.i64 k)) (T.n none (T.n none (T.n (some (AV.p 0 0)) (T.n none (T.n
  none (T.n (some (AV.i IntKind.i64 k)) T.e T.e) T.e) (T.n (some (AV.i IntKind.i64 (aa i))) (T.n (some (AV.tup [])) T.e T.e) T.e)) (T.n none (T.n none (T.n (some (AV.p 0 0)) T.e
  T.e) T.e) (T.n (some (AV.i IntKind.i64 (aa i))) T.e (T.n (some (AV.b !decide (aa i < (4 : Int)) == decide (SS.wrE s (aa i) 64 = (0 : Int)))) T.e T.e)))) (T.n (some (AV.i
  IntKind.i64 (aa i))) (T.n none (T.n none (T.n (some (AV.tup [])) T.e T.e) T.e) (T.n (some (AV.i IntKind.i64 (Int.ofNat i + (1 : Int)))) (T.n (some (AV.b false)) T.e T.e) (T.n
  (some (AV.b (decide (aa i < (4 : Int))))) T.e T.e))) (T.n none (T.n (some (AV.i IntKind.i64 (Int.ofNat i))) (T.n (some (AV.p 0 0)) T.e T.e) T.e) (T.n (some (AV.b (decide (aa i <
  (4 : Int))))) T.e (T.n (some (AV.tup [])) T.e T.e))))) (T.n none (T.n (some (AV.i IntKind.i64 (Int.ofNat tk))) (T.n none (T.n none (T.n (some (AV.b (decide ((0 : Int) ≤ k)))) T.e
  T.e) T.e) (T.n (some (AV.i IntKind.i64 (aa i))) (T.n (some (AV.b false)) T.e T.e) T.e)) (T.n none (T.n (some (AV.sv 1 L fun i x => CV.i IntKind.i64 (aa i))) (T.n (some (AV.b
  false)) T.e T.e) T.e) (T.n (some (AV.b (decide ((0 : Int) ≤ aa i)))) T.e (T.n (some (AV.tup [])) T.e T.e)))) (T.n (some (AV.b (decide (aa i < (4 : Int))))) (T.n none (T.n none
  (T.n (some (AV.tup [])) T.e T.e) T.e) (T.n (some (AV.lr 1 1 0 64 false)) T.e (T.n (some (AV.b (decide (SS.wrE s (aa i) 64 = (0 : Int))))) T.e T.e))) (T.n none (T.n (some (AV.i
  IntKind.i64 (Int.ofNat i))) (T.n (some (AV.b (SS.off (SS.wrS s (aa i) 64 (fB (wrapA IntKind.u8 (Int.ofNat i + (1 : Int)))))))) T.e T.e) T.e) (T.n (some (AV.b (decide (aa i < (4 :
  Int))))) T.e (T.n (some (AV.tup [])) T.e T.e)))))) (T.n (some (AV.i IntKind.i64 keep)) (T.n none (T.n none (T.n none (T.n none (T.n (some (AV.b (decide ((0 : Int) ≤ k)))) T.e T.e)
  T.e) (T.n (some (AV.p 0 0)) (T.n (some (AV.b false)) T.e T.e) T.e)) (T.n none (T.n none (T.n (some (AV.b (SS.off (SS.wrS s (aa i) 64 (fB (wrapA IntKind.u8 (Int.ofNat i + (1 :
  Int)))))))) T.e T.e) T.e) (T.n (some (AV.b (decide ((0 : Int) ≤ aa i)))) T.e (T.n (some (AV.tup [])) T.e T.e)))) (T.n (some (AV.i IntKind.i64 (SS.wrE s (aa i) 64))) (T.n none (T.n
  none (T.n (some (AV.tup [])) T.e T.e) T.e) (T.n (some (AV.i IntKind.u8 (wrapA IntKind.u8 (Int.ofNat i + (1 : Int))))) T.e (T.n (some (AV.i IntKind.i64 (SS.wrE s (aa i) 64))) T.e
  T.e))) (T.n none (T.n (some (AV.b (decide (Int.ofNat i < Int.ofNat L)))) (T.n (some (AV.b (SS.off (SS.wrS s (aa i) 64 (fB (wrapA IntKind.u8 (Int.ofNat i + (1 : Int)))))))) T.e
  T.e) T.e) (T.n (some (AV.b (decide (aa i < (4 : Int))))) T.e (T.n (some (AV.tup [])) T.e T.e))))) (T.n (some (AV.b false)) (T.n (some (AV.i IntKind.i64 (Int.ofNat i))) (T.n none
  (T.n none (T.n (some (AV.b (decide ((0 : Int) ≤ k)))) T.e T.e) T.e) (T.n (some (AV.i IntKind.i64 (Int.ofNat i))) (T.n (some (AV.b !SS.off (SS.wrS s (aa i) 64 (fB (wrapA IntKind.u8
  (Int.ofNat i + (1 : Int))))) == false)) T.e T.e) T.e)) (T.n none (T.n (some (AV.i IntKind.i64 (Int.ofNat L))) (T.n (some (AV.b false)) T.e T.e) T.e) (T.n (some (AV.i IntKind.i64
  (aa i))) T.e (T.n (some (AV.tup [])) T.e T.e)))) (T.n (some (AV.b false)) (T.n none (T.n none (T.n (some (AV.b false)) T.e T.e) T.e) (T.n (some (AV.i IntKind.i64 (SS.wrE s (aa i)
  64))) T.e (T.n (some (AV.b !decide (aa i < (4 : Int)) == decide (SS.wrE s (aa i) 64 = (0 : Int)))) T.e T.e))) (T.n none (T.n (some (AV.pv 1 fun c => CV.i IntKind.i64 (aa i))) (T.n
  (some (AV.tup [])) T.e T.e) T.e) (T.n (some (AV.b (decide (aa i < (4 : Int))))) T.e (T.n (some (AV.b true)) T.e T.e))))))) { tree := T.n (some (AObj.segs 73 33799 [{ st := 0, sz := 1, n := 1, f := oneF (CV.i IntKind.i64 (Int.ofNat (SS.n (SS.wrS s (aa i) 64 (fB (wrapA IntKind.u8 (Int.ofNat i + (1 : Int)))))))) }, { st := 1, sz := 65, n := 512, f := durF (SS.dur (SS.wrS s (aa i) 64 (fB (wrapA IntKind.u8 (Int.ofNat i + (1 : Int)))))) (SS.torn (SS.wrS s (aa i) 64 (fB (wrapA IntKind.u8 (Int.ofNat i + (1 : Int)))))) }, { st := 33281, sz := 1, n := 1, f := oneF (CV.opv (pB (SS.P (SS.wrS s (aa i) 64 (fB (wrapA IntKind.u8 (Int.ofNat i + (1 : Int))))))) 66 (pW (SS.P (SS.wrS s (aa i) 64 (fB (wrapA IntKind.u8 (Int.ofNat i + (1 : Int)))))))) }, { st := 33282, sz := 1, n := 512, f := latF (lB (SS.P (SS.wrS s (aa i) 64 (fB (wrapA IntKind.u8 (Int.ofNat i + (1 : Int))))))) (lW (SS.P (SS.wrS s (aa i) 64 (fB (wrapA IntKind.u8 (Int.ofNat i + (1 : Int))))))) }, { st := 33794, sz := 5, n := 1, f := tailF (Int.ofNat (List.length (SS.P (SS.wrS s (aa i) 64 (fB (wrapA IntKind.u8 (Int.ofNat i + (1 : Int)))))))) (Int.ofNat (SS.wr (SS.wrS s (aa i) 64 (fB (wrapA IntKind.u8 (Int.ofNat i + (1 : Int))))))) (SS.off (SS.wrS s (aa i) 64 (fB (wrapA IntKind.u8 (Int.ofNat i + (1 : Int)))))) (SS.armed (SS.wrS s (aa i) 64 (fB (wrapA IntKind.u8 (Int.ofNat i + (1 : Int)))))) (Int.ofNat (SS.left (SS.wrS s (aa i) 64 (fB (wrapA IntKind.u8 (Int.ofNat i + (1 : Int))))))) }])) (T.n (some (AObj.rows 5 1 64 (fF (wrapA IntKind.u8 (Int.ofNat i + (1 : Int)))))) T.e T.e) T.e, next := 2, log := [0, 1] })
  Orc.z)))) ∧ (decide (aa i < (4 : Int)) = false → decide (aa i < (4 : Int)) = false ∧ decide (aa i < (4 : Int)) = false ∧ Con Try.prog 27 [AV.p 0 0] [some (SS.o (SS.wrS s (aa i) 64
  (fB (wrapA IntKind.u8 (Int.ofNat i + (1 : Int))))))] (AV.b (SS.off (SS.wrS s (aa i) 64 (fB (wrapA IntKind.u8 (Int.ofNat i + (1 : Int))))))) [Upd.keep] ∧ Con Try.prog 27 [AV.p 0 0]
  [some (SS.o (SS.wrS s (aa i) 64 (fB (wrapA IntKind.u8 (Int.ofNat i + (1 : Int))))))] (AV.b (SS.off (SS.wrS s (aa i) 64 (fB (wrapA IntKind.u8 (Int.ofNat i + (1 : Int)))))))
  [Upd.keep] ∧ (SS.off (SS.wrS s (aa i) 64 (fB (wrapA IntKind.u8 (Int.ofNat i + (1 : Int))))) = true → SS.off (SS.wrS s (aa i) 64 (fB (wrapA IntKind.u8 (Int.ofNat i + (1 : Int)))))
  = true ∧ SS.off (SS.wrS s (aa i) 64 (fB (wrapA IntKind.u8 (Int.ofNat i + (1 : Int))))) = true ∧ True ∧ ((!SS.off (SS.wrS s (aa i) 64 (fB (wrapA IntKind.u8 (Int.ofNat i + (1 :
  Int))))) == decide (SS.wrE s (aa i) 64 = (13 : Int))) = true → K (Res.st XO.ret (T.n (some (AV.i IntKind.i64 k)) (T.n none (T.n none (T.n (some (AV.p 0 0)) (T.n none (T.n none
  (T.n (some (AV.tup [])) T.e T.e) T.e) (T.n (some (AV.i IntKind.i64 (aa i))) (T.n (some (AV.b (decide (SS.wrE s (aa i) 64 = (13 : Int))))) T.e T.e) T.e)) (T.n none (T.n none (T.n
  (some (AV.p 0 0)) T.e T.e) T.e) (T.n (some (AV.i IntKind.i64 (aa i))) T.e T.e))) (T.n (some (AV.i IntKind.i64 (aa i))) (T.n none (T.n none (T.n (some (AV.tup [])) T.e T.e) T.e)
  (T.n (some (AV.i IntKind.i64 (Int.ofNat i + (1 : Int)))) T.e T.e)) (T.n none (T.n (some (AV.i IntKind.i64 (Int.ofNat i))) (T.n (some (AV.p 0 0)) T.e T.e) T.e) (T.n (some (AV.b
  (decide (aa i < (4 : Int))))) T.e T.e)))) (T.n none (T.n (some (AV.i IntKind.i64 (Int.ofNat tk))) (T.n none (T.n none (T.n (some (AV.b false)) T.e T.e) T.e) (T.n (some (AV.i
  IntKind.i64 (aa i))) (T.n (some (AV.b (decide (SS.wrE s (aa i) 64 = (13 : Int))))) T.e T.e) T.e)) (T.n none (T.n (some (AV.sv 1 L fun i x => CV.i IntKind.i64 (aa i))) (T.n (some
  (AV.b false)) T.e T.e) T.e) (T.n (some (AV.b (decide ((0 : Int) ≤ aa i)))) T.e T.e))) (T.n (some (AV.b (decide (aa i < (4 : Int))))) (T.n none (T.n none (T.n (some (AV.tup []))
  T.e T.e) T.e) (T.n (some (AV.lr 1 1 0 64 false)) T.e T.e)) (T.n none (T.n (some (AV.i IntKind.i64 (Int.ofNat i))) (T.n (some (AV.b (SS.off (SS.wrS s (aa i) 64 (fB (wrapA
  IntKind.u8 (Int.ofNat i + (1 : Int)))))))) T.e T.e) T.e) (T.n (some (AV.b (decide (aa i < (4 : Int))))) T.e T.e))))) (T.n (some (AV.i IntKind.i64 keep)) (T.n none (T.n none (T.n
  none (T.n none (T.n (some (AV.tup [])) T.e T.e) T.e) (T.n (some (AV.p 0 0)) (T.n (some (AV.b (decide (SS.wrE s (aa i) 64 = (13 : Int))))) T.e T.e) T.e)) (T.n none (T.n none (T.n
  (some (AV.b (SS.off (SS.wrS s (aa i) 64 (fB (wrapA IntKind.u8 (Int.ofNat i + (1 : Int)))))))) T.e T.e) T.e) (T.n (some (AV.b (decide ((0 : Int) ≤ aa i)))) T.e T.e))) (T.n (some
  (AV.i IntKind.i64 (SS.wrE s (aa i) 64))) (T.n none (T.n none (T.n (some (AV.tup [])) T.e T.e) T.e) (T.n (some (AV.i IntKind.u8 (wrapA IntKind.u8 (Int.ofNat i + (1 : Int))))) T.e
  T.e)) (T.n none (T.n (some (AV.b (decide (Int.ofNat i < Int.ofNat L)))) (T.n (some (AV.b (SS.off (SS.wrS s (aa i) 64 (fB (wrapA IntKind.u8 (Int.ofNat i + (1 : Int)))))))) T.e T.e)
  T.e) (T.n (some (AV.b (decide (aa i < (4 : Int))))) T.e T.e)))) (T.n (some (AV.b false)) (T.n (some (AV.i IntKind.i64 (Int.ofNat i))) (T.n none (T.n none (T.n (some (AV.b false))
  T.e T.e) T.e) (T.n (some (AV.i IntKind.i64 (Int.ofNat i))) (T.n (some (AV.b !SS.off (SS.wrS s (aa i) 64 (fB (wrapA IntKind.u8 (Int.ofNat i + (1 : Int))))) == decide (SS.wrE s (aa
  i) 64 = (13 : Int)))) T.e T.e) T.e)) (T.n none (T.n (some (AV.i IntKind.i64 (Int.ofNat L))) (T.n (some (AV.b false)) T.e T.e) T.e) (T.n (some (AV.i IntKind.i64 (aa i))) T.e T.e)))
  (T.n (some (AV.b false)) (T.n none (T.n none (T.n (some (AV.b false)) T.e T.e) T.e) (T.n (some (AV.i IntKind.i64 (SS.wrE s (aa i) 64))) T.e T.e)) (T.n none (T.n (some (AV.pv 1 fun
  c => CV.i IntKind.i64 (aa i))) (T.n (some (AV.i IntKind.i64 (SS.wrE s (aa i) 64))) T.e T.e) T.e) (T.n (some (AV.b (decide (aa i < (4 : Int))))) T.e T.e)))))) { tree := T.n (some (AObj.segs 73 33799 [{ st := 0, sz := 1, n := 1, f := oneF (CV.i IntKind.i64 (Int.ofNat (SS.n (SS.wrS s (aa i) 64 (fB (wrapA IntKind.u8 (Int.ofNat i + (1 : Int)))))))) }, { st := 1, sz := 65, n := 512, f := durF (SS.dur (SS.wrS s (aa i) 64 (fB (wrapA IntKind.u8 (Int.ofNat i + (1 : Int)))))) (SS.torn (SS.wrS s (aa i) 64 (fB (wrapA IntKind.u8 (Int.ofNat i + (1 : Int)))))) }, { st := 33281, sz := 1, n := 1, f := oneF (CV.opv (pB (SS.P (SS.wrS s (aa i) 64 (fB (wrapA IntKind.u8 (Int.ofNat i + (1 : Int))))))) 66 (pW (SS.P (SS.wrS s (aa i) 64 (fB (wrapA IntKind.u8 (Int.ofNat i + (1 : Int)))))))) }, { st := 33282, sz := 1, n := 512, f := latF (lB (SS.P (SS.wrS s (aa i) 64 (fB (wrapA IntKind.u8 (Int.ofNat i + (1 : Int))))))) (lW (SS.P (SS.wrS s (aa i) 64 (fB (wrapA IntKind.u8 (Int.ofNat i + (1 : Int))))))) }, { st := 33794, sz := 5, n := 1, f := tailF (Int.ofNat (List.length (SS.P (SS.wrS s (aa i) 64 (fB (wrapA IntKind.u8 (Int.ofNat i + (1 : Int)))))))) (Int.ofNat (SS.wr (SS.wrS s (aa i) 64 (fB (wrapA IntKind.u8 (Int.ofNat i + (1 : Int))))))) (SS.off (SS.wrS s (aa i) 64 (fB (wrapA IntKind.u8 (Int.ofNat i + (1 : Int)))))) (SS.armed (SS.wrS s (aa i) 64 (fB (wrapA IntKind.u8 (Int.ofNat i + (1 : Int)))))) (Int.ofNat (SS.left (SS.wrS s (aa i) 64 (fB (wrapA IntKind.u8 (Int.ofNat i + (1 : Int))))))) }])) (T.n (some (AObj.rows 5 1 64 (fF (wrapA IntKind.u8 (Int.ofNat i + (1 : Int)))))) T.e T.e) T.e, next := 2, log := [0, 1] })
  Orc.z) ∧ ((!SS.off (SS.wrS s (aa i) 64 (fB (wrapA IntKind.u8 (Int.ofNat i + (1 : Int))))) == decide (SS.wrE s (aa i) 64 = (13 : Int))) = false → True ∧ ((!!decide (aa i < (4 :
  Int)) == decide (SS.wrE s (aa i) 64 = (0 : Int))) = true → (!!decide (aa i < (4 : Int)) == decide (SS.wrE s (aa i) 64 = (0 : Int))) = true ∧ True ∧ (!!decide (aa i < (4 : Int)) ==
  decide (SS.wrE s (aa i) 64 = (0 : Int))) = true ∧ (!decide (aa i < (4 : Int))) = true ∧ (!decide (aa i < (4 : Int))) = true ∧ (!!decide (aa i < (4 : Int)) == decide (SS.wrE s (aa
  i) 64 = (0 : Int))) = true ∧ (!decide (aa i < (4 : Int))) = true ∧ (!decide (aa i < (4 : Int)) == decide (SS.wrE s (aa i) 64 = (0 : Int))) = false ∧ ((!decide (SS.wrE s (aa i) 64
  = (2 : Int))) = true → K (Res.st XO.ret (T.n (some (AV.i IntKind.i64 k)) (T.n none (T.n none (T.n (some (AV.p 0 0)) (T.n none (T.n none (T.n (some (AV.tup [])) T.e T.e) T.e) (T.n
  (some (AV.i IntKind.i64 (aa i))) (T.n (some (AV.b (decide (SS.wrE s (aa i) 64 = (13 : Int))))) T.e T.e) T.e)) (T.n none (T.n none (T.n (some (AV.p 0 0)) T.e T.e) T.e) (T.n (some
  (AV.i IntKind.i64 (aa i))) T.e (T.n (some (AV.b !decide (aa i < (4 : Int)) == decide (SS.wrE s (aa i) 64 = (0 : Int)))) T.e T.e)))) (T.n (some (AV.i IntKind.i64 (aa i))) (T.n none
  (T.n none (T.n (some (AV.tup [])) T.e T.e) T.e) (T.n (some (AV.i IntKind.i64 (Int.ofNat i + (1 : Int)))) (T.n (some (AV.b false)) T.e T.e) (T.n (some (AV.b (decide (aa i < (4 :
  Int))))) T.e T.e))) (T.n none (T.n (some (AV.i IntKind.i64 (Int.ofNat i))) (T.n (some (AV.p 0 0)) T.e T.e) T.e) (T.n (some (AV.b (decide (aa i < (4 : Int))))) T.e (T.n (some (AV.i
  IntKind.i64 (SS.wrE s (aa i) 64))) T.e T.e))))) (T.n none (T.n (some (AV.i IntKind.i64 (Int.ofNat tk))) (T.n none (T.n none (T.n (some (AV.b false)) T.e T.e) T.e) (T.n (some (AV.i
  IntKind.i64 (aa i))) (T.n (some (AV.b (decide (SS.wrE s (aa i) 64 = (13 : Int))))) T.e T.e) T.e)) (T.n none (T.n (some (AV.sv 1 L fun i x => CV.i IntKind.i64 (aa i))) (T.n (some
  (AV.b false)) T.e T.e) T.e) (T.n (some (AV.b (decide ((0 : Int) ≤ aa i)))) T.e (T.n (some (AV.b !decide (aa i < (4 : Int)))) T.e T.e)))) (T.n (some (AV.b (decide (aa i < (4 :
  Int))))) (T.n none (T.n none (T.n (some (AV.tup [])) T.e T.e) T.e) (T.n (some (AV.lr 1 1 0 64 false)) T.e (T.n (some (AV.b (decide (SS.wrE s (aa i) 64 = (0 : Int))))) T.e T.e)))
  (T.n none (T.n (some (AV.i IntKind.i64 (Int.ofNat i))) (T.n (some (AV.b (SS.off (SS.wrS s (aa i) 64 (fB (wrapA IntKind.u8 (Int.ofNat i + (1 : Int)))))))) T.e T.e) T.e) (T.n (some
  (AV.b (decide (aa i < (4 : Int))))) T.e (T.n (some (AV.b !decide (SS.wrE s (aa i) 64 = (2 : Int)))) T.e T.e)))))) (T.n (some (AV.i IntKind.i64 keep)) (T.n none (T.n none (T.n none
  (T.n none (T.n (some (AV.tup [])) T.e T.e) T.e) (T.n (some (AV.p 0 0)) (T.n (some (AV.b (decide (SS.wrE s (aa i) 64 = (13 : Int))))) T.e T.e) T.e)) (T.n none (T.n none (T.n (some
  (AV.b (SS.off (SS.wrS s (aa i) 64 (fB (wrapA IntKind.u8 (Int.ofNat i + (1 : Int)))))))) T.e T.e) T.e) (T.n (some (AV.b (decide ((0 : Int) ≤ aa i)))) T.e (T.n (some (AV.b (decide
  (aa i < (4 : Int))))) T.e T.e)))) (T.n (some (AV.i IntKind.i64 (SS.wrE s (aa i) 64))) (T.n none (T.n none (T.n (some (AV.tup [])) T.e T.e) T.e) (T.n (some (AV.i IntKind.u8 (wrapA
  IntKind.u8 (Int.ofNat i + (1 : Int))))) T.e (T.n (some (AV.i IntKind.i64 (SS.wrE s (aa i) 64))) T.e T.e))) (T.n none (T.n (some (AV.b (decide (Int.ofNat i < Int.ofNat L)))) (T.n
  (some (AV.b (SS.off (SS.wrS s (aa i) 64 (fB (wrapA IntKind.u8 (Int.ofNat i + (1 : Int)))))))) T.e T.e) T.e) (T.n (some (AV.b (decide (aa i < (4 : Int))))) T.e (T.n (some (AV.b
  !decide (SS.wrE s (aa i) 64 = (2 : Int)))) T.e T.e))))) (T.n (some (AV.b false)) (T.n (some (AV.i IntKind.i64 (Int.ofNat i))) (T.n none (T.n none (T.n (some (AV.b false)) T.e T.e)
  T.e) (T.n (some (AV.i IntKind.i64 (Int.ofNat i))) (T.n (some (AV.b !SS.off (SS.wrS s (aa i) 64 (fB (wrapA IntKind.u8 (Int.ofNat i + (1 : Int))))) == decide (SS.wrE s (aa i) 64 =
  (13 : Int)))) T.e T.e) T.e)) (T.n none (T.n (some (AV.i IntKind.i64 (Int.ofNat L))) (T.n (some (AV.b false)) T.e T.e) T.e) (T.n (some (AV.i IntKind.i64 (aa i))) T.e (T.n (some
  (AV.b !decide (aa i < (4 : Int)))) T.e T.e)))) (T.n (some (AV.b false)) (T.n none (T.n none (T.n (some (AV.b false)) T.e T.e) T.e) (T.n (some (AV.i IntKind.i64 (SS.wrE s (aa i)
  64))) T.e (T.n (some (AV.b !decide (aa i < (4 : Int)) == decide (SS.wrE s (aa i) 64 = (0 : Int)))) T.e T.e))) (T.n none (T.n (some (AV.pv 1 fun c => CV.i IntKind.i64 (aa i))) (T.n
  (some (AV.i IntKind.i64 (SS.wrE s (aa i) 64))) T.e T.e) T.e) (T.n (some (AV.b (decide (aa i < (4 : Int))))) T.e (T.n (some (AV.b !decide (SS.wrE s (aa i) 64 = (2 : Int)))) T.e
  T.e))))))) { tree := T.n (some (AObj.segs 73 33799 [{ st := 0, sz := 1, n := 1, f := oneF (CV.i IntKind.i64 (Int.ofNat (SS.n (SS.wrS s (aa i) 64 (fB (wrapA IntKind.u8 (Int.ofNat i + (1 : Int)))))))) }, { st := 1, sz := 65, n := 512, f := durF (SS.dur (SS.wrS s (aa i) 64 (fB (wrapA IntKind.u8 (Int.ofNat i + (1 : Int)))))) (SS.torn (SS.wrS s (aa i) 64 (fB (wrapA IntKind.u8 (Int.ofNat i + (1 : Int)))))) }, { st := 33281, sz := 1, n := 1, f := oneF (CV.opv (pB (SS.P (SS.wrS s (aa i) 64 (fB (wrapA IntKind.u8 (Int.ofNat i + (1 : Int))))))) 66 (pW (SS.P (SS.wrS s (aa i) 64 (fB (wrapA IntKind.u8 (Int.ofNat i + (1 : Int)))))))) }, { st := 33282, sz := 1, n := 512, f := latF (lB (SS.P (SS.wrS s (aa i) 64 (fB (wrapA IntKind.u8 (Int.ofNat i + (1 : Int))))))) (lW (SS.P (SS.wrS s (aa i) 64 (fB (wrapA IntKind.u8 (Int.ofNat i + (1 : Int))))))) }, { st := 33794, sz := 5, n := 1, f := tailF (Int.ofNat (List.length (SS.P (SS.wrS s (aa i) 64 (fB (wrapA IntKind.u8 (Int.ofNat i + (1 : Int)))))))) (Int.ofNat (SS.wr (SS.wrS s (aa i) 64 (fB (wrapA IntKind.u8 (Int.ofNat i + (1 : Int))))))) (SS.off (SS.wrS s (aa i) 64 (fB (wrapA IntKind.u8 (Int.ofNat i + (1 : Int)))))) (SS.armed (SS.wrS s (aa i) 64 (fB (wrapA IntKind.u8 (Int.ofNat i + (1 : Int)))))) (Int.ofNat (SS.left (SS.wrS s (aa i) 64 (fB (wrapA IntKind.u8 (Int.ofNat i + (1 : Int))))))) }])) (T.n (some (AObj.rows 5 1 64 (fF (wrapA IntKind.u8 (Int.ofNat i + (1 : Int)))))) T.e T.e) T.e, next := 2, log := [0, 1] })
  Orc.z) ∧ ((!decide (SS.wrE s (aa i) 64 = (2 : Int))) = false → decide (aa i < (4 : Int)) = false ∧ ((-9223372036854775808 : Int) ≤ Int.ofNat i + (1 : Int) ∧ Int.ofNat i + (1 :
  Int) ≤ (9223372036854775807 : Int)) ∧ K (Res.st XO.nrm (T.n (some (AV.i IntKind.i64 k)) (T.n none (T.n none (T.n (some (AV.p 0 0)) (T.n none (T.n none (T.n (some (AV.tup [])) (T.n
  (some (AV.b (decide (aa i < (4 : Int))))) T.e T.e) T.e) T.e) (T.n (some (AV.i IntKind.i64 (aa i))) (T.n (some (AV.b (decide (SS.wrE s (aa i) 64 = (13 : Int))))) T.e T.e) T.e))
  (T.n none (T.n none (T.n (some (AV.p 0 0)) T.e T.e) T.e) (T.n (some (AV.i IntKind.i64 (aa i))) T.e (T.n (some (AV.b !decide (aa i < (4 : Int)) == decide (SS.wrE s (aa i) 64 = (0 :
  Int)))) T.e T.e)))) (T.n (some (AV.i IntKind.i64 (aa i))) (T.n none (T.n none (T.n (some (AV.tup [])) T.e T.e) T.e) (T.n (some (AV.i IntKind.i64 (Int.ofNat i + (1 : Int)))) (T.n
  (some (AV.b false)) T.e T.e) (T.n (some (AV.b (decide (aa i < (4 : Int))))) T.e T.e))) (T.n none (T.n (some (AV.i IntKind.i64 (Int.ofNat i + (1 : Int)))) (T.n (some (AV.p 0 0))
  T.e T.e) T.e) (T.n (some (AV.b (decide (aa i < (4 : Int))))) T.e (T.n (some (AV.i IntKind.i64 (SS.wrE s (aa i) 64))) T.e T.e))))) (T.n none (T.n (some (AV.i IntKind.i64 (Int.ofNat
  tk))) (T.n none (T.n none (T.n (some (AV.b false)) T.e T.e) T.e) (T.n (some (AV.i IntKind.i64 (aa i))) (T.n (some (AV.b (decide (SS.wrE s (aa i) 64 = (13 : Int))))) T.e T.e) T.e))
  (T.n none (T.n (some (AV.sv 1 L fun i x => CV.i IntKind.i64 (aa i))) (T.n (some (AV.b false)) T.e T.e) T.e) (T.n (some (AV.b (decide ((0 : Int) ≤ aa i)))) T.e (T.n (some (AV.b
  !decide (aa i < (4 : Int)))) T.e T.e)))) (T.n (some (AV.b (decide (aa i < (4 : Int))))) (T.n none (T.n none (T.n (some (AV.tup [])) T.e T.e) T.e) (T.n (some (AV.lr 1 1 0 64
  false)) T.e (T.n (some (AV.b (decide (SS.wrE s (aa i) 64 = (0 : Int))))) T.e T.e))) (T.n none (T.n (some (AV.i IntKind.i64 (Int.ofNat i))) (T.n (some (AV.b (SS.off (SS.wrS s (aa
  i) 64 (fB (wrapA IntKind.u8 (Int.ofNat i + (1 : Int)))))))) T.e T.e) T.e) (T.n (some (AV.b (decide (aa i < (4 : Int))))) T.e (T.n (some (AV.b !decide (SS.wrE s (aa i) 64 = (2 :
  Int)))) T.e T.e)))))) (T.n (some (AV.i IntKind.i64 keep)) (T.n none (T.n none (T.n none (T.n none (T.n (some (AV.tup [])) T.e T.e) T.e) (T.n (some (AV.p 0 0)) (T.n (some (AV.b
  (decide (SS.wrE s (aa i) 64 = (13 : Int))))) T.e T.e) T.e)) (T.n none (T.n none (T.n (some (AV.b (SS.off (SS.wrS s (aa i) 64 (fB (wrapA IntKind.u8 (Int.ofNat i + (1 : Int))))))))
  T.e T.e) T.e) (T.n (some (AV.b (decide ((0 : Int) ≤ aa i)))) T.e (T.n (some (AV.b (decide (aa i < (4 : Int))))) T.e T.e)))) (T.n (some (AV.i IntKind.i64 (SS.wrE s (aa i) 64)))
  (T.n none (T.n none (T.n (some (AV.tup [])) T.e T.e) T.e) (T.n (some (AV.i IntKind.u8 (wrapA IntKind.u8 (Int.ofNat i + (1 : Int))))) T.e (T.n (some (AV.i IntKind.i64 (SS.wrE s (aa
  i) 64))) T.e T.e))) (T.n none (T.n (some (AV.b (decide (Int.ofNat i < Int.ofNat L)))) (T.n (some (AV.b (SS.off (SS.wrS s (aa i) 64 (fB (wrapA IntKind.u8 (Int.ofNat i + (1 :
  Int)))))))) T.e T.e) T.e) (T.n (some (AV.b (decide (aa i < (4 : Int))))) T.e (T.n (some (AV.b !decide (SS.wrE s (aa i) 64 = (2 : Int)))) T.e T.e))))) (T.n none (T.n (some (AV.i
  IntKind.i64 (Int.ofNat i))) (T.n none (T.n none (T.n (some (AV.b false)) (T.n (some (AV.i IntKind.i64 (Int.ofNat i + (1 : Int)))) T.e T.e) T.e) T.e) (T.n (some (AV.i IntKind.i64
  (Int.ofNat i))) (T.n (some (AV.b !SS.off (SS.wrS s (aa i) 64 (fB (wrapA IntKind.u8 (Int.ofNat i + (1 : Int))))) == decide (SS.wrE s (aa i) 64 = (13 : Int)))) T.e T.e) T.e)) (T.n
  none (T.n (some (AV.i IntKind.i64 (Int.ofNat L))) (T.n (some (AV.b false)) T.e T.e) T.e) (T.n (some (AV.i IntKind.i64 (aa i))) T.e (T.n (some (AV.b !decide (aa i < (4 : Int))))
  T.e T.e)))) (T.n (some (AV.b false)) (T.n none (T.n none (T.n (some (AV.b false)) T.e T.e) T.e) (T.n (some (AV.i IntKind.i64 (SS.wrE s (aa i) 64))) T.e (T.n (some (AV.b !decide
  (aa i < (4 : Int)) == decide (SS.wrE s (aa i) 64 = (0 : Int)))) T.e T.e))) (T.n none (T.n (some (AV.pv 1 fun c => CV.i IntKind.i64 (aa i))) (T.n (some (AV.i IntKind.i64 (SS.wrE s
  (aa i) 64))) T.e T.e) T.e) (T.n (some (AV.b (decide (aa i < (4 : Int))))) T.e (T.n (some (AV.b !decide (SS.wrE s (aa i) 64 = (2 : Int)))) T.e T.e))))))) { tree := T.n (some (AObj.segs 73 33799 [{ st := 0, sz := 1, n := 1, f := oneF (CV.i IntKind.i64 (Int.ofNat (SS.n (SS.wrS s (aa i) 64 (fB (wrapA IntKind.u8 (Int.ofNat i + (1 : Int)))))))) }, { st := 1, sz := 65, n := 512, f := durF (SS.dur (SS.wrS s (aa i) 64 (fB (wrapA IntKind.u8 (Int.ofNat i + (1 : Int)))))) (SS.torn (SS.wrS s (aa i) 64 (fB (wrapA IntKind.u8 (Int.ofNat i + (1 : Int)))))) }, { st := 33281, sz := 1, n := 1, f := oneF (CV.opv (pB (SS.P (SS.wrS s (aa i) 64 (fB (wrapA IntKind.u8 (Int.ofNat i + (1 : Int))))))) 66 (pW (SS.P (SS.wrS s (aa i) 64 (fB (wrapA IntKind.u8 (Int.ofNat i + (1 : Int)))))))) }, { st := 33282, sz := 1, n := 512, f := latF (lB (SS.P (SS.wrS s (aa i) 64 (fB (wrapA IntKind.u8 (Int.ofNat i + (1 : Int))))))) (lW (SS.P (SS.wrS s (aa i) 64 (fB (wrapA IntKind.u8 (Int.ofNat i + (1 : Int))))))) }, { st := 33794, sz := 5, n := 1, f := tailF (Int.ofNat (List.length (SS.P (SS.wrS s (aa i) 64 (fB (wrapA IntKind.u8 (Int.ofNat i + (1 : Int)))))))) (Int.ofNat (SS.wr (SS.wrS s (aa i) 64 (fB (wrapA IntKind.u8 (Int.ofNat i + (1 : Int))))))) (SS.off (SS.wrS s (aa i) 64 (fB (wrapA IntKind.u8 (Int.ofNat i + (1 : Int)))))) (SS.armed (SS.wrS s (aa i) 64 (fB (wrapA IntKind.u8 (Int.ofNat i + (1 : Int)))))) (Int.ofNat (SS.left (SS.wrS s (aa i) 64 (fB (wrapA IntKind.u8 (Int.ofNat i + (1 : Int))))))) }])) (T.n (some (AObj.rows 5 1 64 (fF (wrapA IntKind.u8 (Int.ofNat i + (1 : Int)))))) T.e T.e) T.e, next := 2, log := [0, 1] })
  Orc.z)) ∧ ((!!decide (aa i < (4 : Int)) == decide (SS.wrE s (aa i) 64 = (0 : Int))) = false → (!!decide (aa i < (4 : Int)) == decide (SS.wrE s (aa i) 64 = (0 : Int))) = false ∧
  (!!decide (aa i < (4 : Int)) == decide (SS.wrE s (aa i) 64 = (0 : Int))) = false ∧ (!!decide (aa i < (4 : Int)) == decide (SS.wrE s (aa i) 64 = (0 : Int))) = false ∧ (!decide (aa
  i < (4 : Int)) == decide (SS.wrE s (aa i) 64 = (0 : Int))) = true ∧ K (Res.st XO.ret (T.n (some (AV.i IntKind.i64 k)) (T.n none (T.n none (T.n (some (AV.p 0 0)) (T.n none (T.n
  none (T.n (some (AV.tup [])) T.e T.e) T.e) (T.n (some (AV.i IntKind.i64 (aa i))) (T.n (some (AV.b (decide (SS.wrE s (aa i) 64 = (13 : Int))))) T.e T.e) T.e)) (T.n none (T.n none
  (T.n (some (AV.p 0 0)) T.e T.e) T.e) (T.n (some (AV.i IntKind.i64 (aa i))) T.e (T.n (some (AV.b !decide (aa i < (4 : Int)) == decide (SS.wrE s (aa i) 64 = (0 : Int)))) T.e T.e))))
  (T.n (some (AV.i IntKind.i64 (aa i))) (T.n none (T.n none (T.n (some (AV.tup [])) T.e T.e) T.e) (T.n (some (AV.i IntKind.i64 (Int.ofNat i + (1 : Int)))) (T.n (some (AV.b false))
  T.e T.e) (T.n (some (AV.b (decide (aa i < (4 : Int))))) T.e T.e))) (T.n none (T.n (some (AV.i IntKind.i64 (Int.ofNat i))) (T.n (some (AV.p 0 0)) T.e T.e) T.e) (T.n (some (AV.b
  (decide (aa i < (4 : Int))))) T.e (T.n (some (AV.tup [])) T.e T.e))))) (T.n none (T.n (some (AV.i IntKind.i64 (Int.ofNat tk))) (T.n none (T.n none (T.n (some (AV.b false)) T.e
  T.e) T.e) (T.n (some (AV.i IntKind.i64 (aa i))) (T.n (some (AV.b (decide (SS.wrE s (aa i) 64 = (13 : Int))))) T.e T.e) T.e)) (T.n none (T.n (some (AV.sv 1 L fun i x => CV.i
  IntKind.i64 (aa i))) (T.n (some (AV.b false)) T.e T.e) T.e) (T.n (some (AV.b (decide ((0 : Int) ≤ aa i)))) T.e (T.n (some (AV.tup [])) T.e T.e)))) (T.n (some (AV.b (decide (aa i <
  (4 : Int))))) (T.n none (T.n none (T.n (some (AV.tup [])) T.e T.e) T.e) (T.n (some (AV.lr 1 1 0 64 false)) T.e (T.n (some (AV.b (decide (SS.wrE s (aa i) 64 = (0 : Int))))) T.e
  T.e))) (T.n none (T.n (some (AV.i IntKind.i64 (Int.ofNat i))) (T.n (some (AV.b (SS.off (SS.wrS s (aa i) 64 (fB (wrapA IntKind.u8 (Int.ofNat i + (1 : Int)))))))) T.e T.e) T.e) (T.n
  (some (AV.b (decide (aa i < (4 : Int))))) T.e (T.n (some (AV.tup [])) T.e T.e)))))) (T.n (some (AV.i IntKind.i64 keep)) (T.n none (T.n none (T.n none (T.n none (T.n (some (AV.tup
  [])) T.e T.e) T.e) (T.n (some (AV.p 0 0)) (T.n (some (AV.b (decide (SS.wrE s (aa i) 64 = (13 : Int))))) T.e T.e) T.e)) (T.n none (T.n none (T.n (some (AV.b (SS.off (SS.wrS s (aa
  i) 64 (fB (wrapA IntKind.u8 (Int.ofNat i + (1 : Int)))))))) T.e T.e) T.e) (T.n (some (AV.b (decide ((0 : Int) ≤ aa i)))) T.e (T.n (some (AV.tup [])) T.e T.e)))) (T.n (some (AV.i
  IntKind.i64 (SS.wrE s (aa i) 64))) (T.n none (T.n none (T.n (some (AV.tup [])) T.e T.e) T.e) (T.n (some (AV.i IntKind.u8 (wrapA IntKind.u8 (Int.ofNat i + (1 : Int))))) T.e (T.n
  (some (AV.i IntKind.i64 (SS.wrE s (aa i) 64))) T.e T.e))) (T.n none (T.n (some (AV.b (decide (Int.ofNat i < Int.ofNat L)))) (T.n (some (AV.b (SS.off (SS.wrS s (aa i) 64 (fB (wrapA
  IntKind.u8 (Int.ofNat i + (1 : Int)))))))) T.e T.e) T.e) (T.n (some (AV.b (decide (aa i < (4 : Int))))) T.e (T.n (some (AV.tup [])) T.e T.e))))) (T.n (some (AV.b false)) (T.n
  (some (AV.i IntKind.i64 (Int.ofNat i))) (T.n none (T.n none (T.n (some (AV.b false)) T.e T.e) T.e) (T.n (some (AV.i IntKind.i64 (Int.ofNat i))) (T.n (some (AV.b !SS.off (SS.wrS s
  (aa i) 64 (fB (wrapA IntKind.u8 (Int.ofNat i + (1 : Int))))) == decide (SS.wrE s (aa i) 64 = (13 : Int)))) T.e T.e) T.e)) (T.n none (T.n (some (AV.i IntKind.i64 (Int.ofNat L)))
  (T.n (some (AV.b false)) T.e T.e) T.e) (T.n (some (AV.i IntKind.i64 (aa i))) T.e (T.n (some (AV.tup [])) T.e T.e)))) (T.n (some (AV.b false)) (T.n none (T.n none (T.n (some (AV.b
  false)) T.e T.e) T.e) (T.n (some (AV.i IntKind.i64 (SS.wrE s (aa i) 64))) T.e (T.n (some (AV.b !decide (aa i < (4 : Int)) == decide (SS.wrE s (aa i) 64 = (0 : Int)))) T.e T.e)))
  (T.n none (T.n (some (AV.pv 1 fun c => CV.i IntKind.i64 (aa i))) (T.n (some (AV.i IntKind.i64 (SS.wrE s (aa i) 64))) T.e T.e) T.e) (T.n (some (AV.b (decide (aa i < (4 : Int)))))
  T.e (T.n (some (AV.b true)) T.e T.e))))))) { tree := T.n (some (AObj.segs 73 33799 [{ st := 0, sz := 1, n := 1, f := oneF (CV.i IntKind.i64 (Int.ofNat (SS.n (SS.wrS s (aa i) 64 (fB (wrapA IntKind.u8 (Int.ofNat i + (1 : Int)))))))) }, { st := 1, sz := 65, n := 512, f := durF (SS.dur (SS.wrS s (aa i) 64 (fB (wrapA IntKind.u8 (Int.ofNat i + (1 : Int)))))) (SS.torn (SS.wrS s (aa i) 64 (fB (wrapA IntKind.u8 (Int.ofNat i + (1 : Int)))))) }, { st := 33281, sz := 1, n := 1, f := oneF (CV.opv (pB (SS.P (SS.wrS s (aa i) 64 (fB (wrapA IntKind.u8 (Int.ofNat i + (1 : Int))))))) 66 (pW (SS.P (SS.wrS s (aa i) 64 (fB (wrapA IntKind.u8 (Int.ofNat i + (1 : Int)))))))) }, { st := 33282, sz := 1, n := 512, f := latF (lB (SS.P (SS.wrS s (aa i) 64 (fB (wrapA IntKind.u8 (Int.ofNat i + (1 : Int))))))) (lW (SS.P (SS.wrS s (aa i) 64 (fB (wrapA IntKind.u8 (Int.ofNat i + (1 : Int))))))) }, { st := 33794, sz := 5, n := 1, f := tailF (Int.ofNat (List.length (SS.P (SS.wrS s (aa i) 64 (fB (wrapA IntKind.u8 (Int.ofNat i + (1 : Int)))))))) (Int.ofNat (SS.wr (SS.wrS s (aa i) 64 (fB (wrapA IntKind.u8 (Int.ofNat i + (1 : Int))))))) (SS.off (SS.wrS s (aa i) 64 (fB (wrapA IntKind.u8 (Int.ofNat i + (1 : Int)))))) (SS.armed (SS.wrS s (aa i) 64 (fB (wrapA IntKind.u8 (Int.ofNat i + (1 : Int)))))) (Int.ofNat (SS.left (SS.wrS s (aa i) 64 (fB (wrapA IntKind.u8 (Int.ofNat i + (1 : Int))))))) }])) (T.n (some (AObj.rows 5 1 64 (fF (wrapA IntKind.u8 (Int.ofNat i + (1 : Int)))))) T.e T.e) T.e, next := 2, log := [0, 1] })
  Orc.z))) ∧ (SS.off (SS.wrS s (aa i) 64 (fB (wrapA IntKind.u8 (Int.ofNat i + (1 : Int))))) = false → SS.off (SS.wrS s (aa i) 64 (fB (wrapA IntKind.u8 (Int.ofNat i + (1 : Int))))) =
  false ∧ SS.off (SS.wrS s (aa i) 64 (fB (wrapA IntKind.u8 (Int.ofNat i + (1 : Int))))) = false ∧ True ∧ (!SS.off (SS.wrS s (aa i) 64 (fB (wrapA IntKind.u8 (Int.ofNat i + (1 :
  Int))))) == false) = false ∧ True ∧ ((!!decide (aa i < (4 : Int)) == decide (SS.wrE s (aa i) 64 = (0 : Int))) = true → (!!decide (aa i < (4 : Int)) == decide (SS.wrE s (aa i) 64 =
  (0 : Int))) = true ∧ True ∧ (!!decide (aa i < (4 : Int)) == decide (SS.wrE s (aa i) 64 = (0 : Int))) = true ∧ (!decide (aa i < (4 : Int))) = true ∧ (!decide (aa i < (4 : Int))) =
  true ∧ (!!decide (aa i < (4 : Int)) == decide (SS.wrE s (aa i) 64 = (0 : Int))) = true ∧ (!decide (aa i < (4 : Int))) = true ∧ (!decide (aa i < (4 : Int)) == decide (SS.wrE s (aa
  i) 64 = (0 : Int))) = false ∧ ((!decide (SS.wrE s (aa i) 64 = (2 : Int))) = true → K (Res.st XO.ret (T.n (some (AV.i IntKind.i64 k)) (T.n none (T.n none (T.n (some (AV.p 0 0))
  (T.n none (T.n none (T.n (some (AV.tup [])) T.e T.e) T.e) (T.n (some (AV.i IntKind.i64 (aa i))) (T.n (some (AV.tup [])) T.e T.e) T.e)) (T.n none (T.n none (T.n (some (AV.p 0 0))
  T.e T.e) T.e) (T.n (some (AV.i IntKind.i64 (aa i))) T.e (T.n (some (AV.b !decide (aa i < (4 : Int)) == decide (SS.wrE s (aa i) 64 = (0 : Int)))) T.e T.e)))) (T.n (some (AV.i
  IntKind.i64 (aa i))) (T.n none (T.n none (T.n (some (AV.tup [])) T.e T.e) T.e) (T.n (some (AV.i IntKind.i64 (Int.ofNat i + (1 : Int)))) (T.n (some (AV.b false)) T.e T.e) (T.n
  (some (AV.b (decide (aa i < (4 : Int))))) T.e T.e))) (T.n none (T.n (some (AV.i IntKind.i64 (Int.ofNat i))) (T.n (some (AV.p 0 0)) T.e T.e) T.e) (T.n (some (AV.b (decide (aa i <
  (4 : Int))))) T.e (T.n (some (AV.i IntKind.i64 (SS.wrE s (aa i) 64))) T.e T.e))))) (T.n none (T.n (some (AV.i IntKind.i64 (Int.ofNat tk))) (T.n none (T.n none (T.n (some (AV.b
  false)) T.e T.e) T.e) (T.n (some (AV.i IntKind.i64 (aa i))) (T.n (some (AV.b false)) T.e T.e) T.e)) (T.n none (T.n (some (AV.sv 1 L fun i x => CV.i IntKind.i64 (aa i))) (T.n (some
  (AV.b false)) T.e T.e) T.e) (T.n (some (AV.b (decide ((0 : Int) ≤ aa i)))) T.e (T.n (some (AV.b !decide (aa i < (4 : Int)))) T.e T.e)))) (T.n (some (AV.b (decide (aa i < (4 :
  Int))))) (T.n none (T.n none (T.n (some (AV.tup [])) T.e T.e) T.e) (T.n (some (AV.lr 1 1 0 64 false)) T.e (T.n (some (AV.b (decide (SS.wrE s (aa i) 64 = (0 : Int))))) T.e T.e)))
  (T.n none (T.n (some (AV.i IntKind.i64 (Int.ofNat i))) (T.n (some (AV.b (SS.off (SS.wrS s (aa i) 64 (fB (wrapA IntKind.u8 (Int.ofNat i + (1 : Int)))))))) T.e T.e) T.e) (T.n (some
  (AV.b (decide (aa i < (4 : Int))))) T.e (T.n (some (AV.b !decide (SS.wrE s (aa i) 64 = (2 : Int)))) T.e T.e)))))) (T.n (some (AV.i IntKind.i64 keep)) (T.n none (T.n none (T.n none
  (T.n none (T.n (some (AV.tup [])) T.e T.e) T.e) (T.n (some (AV.p 0 0)) (T.n (some (AV.b false)) T.e T.e) T.e)) (T.n none (T.n none (T.n (some (AV.b (SS.off (SS.wrS s (aa i) 64 (fB
  (wrapA IntKind.u8 (Int.ofNat i + (1 : Int)))))))) T.e T.e) T.e) (T.n (some (AV.b (decide ((0 : Int) ≤ aa i)))) T.e (T.n (some (AV.b (decide (aa i < (4 : Int))))) T.e T.e)))) (T.n
  (some (AV.i IntKind.i64 (SS.wrE s (aa i) 64))) (T.n none (T.n none (T.n (some (AV.tup [])) T.e T.e) T.e) (T.n (some (AV.i IntKind.u8 (wrapA IntKind.u8 (Int.ofNat i + (1 : Int)))))
  T.e (T.n (some (AV.i IntKind.i64 (SS.wrE s (aa i) 64))) T.e T.e))) (T.n none (T.n (some (AV.b (decide (Int.ofNat i < Int.ofNat L)))) (T.n (some (AV.b (SS.off (SS.wrS s (aa i) 64
  (fB (wrapA IntKind.u8 (Int.ofNat i + (1 : Int)))))))) T.e T.e) T.e) (T.n (some (AV.b (decide (aa i < (4 : Int))))) T.e (T.n (some (AV.b !decide (SS.wrE s (aa i) 64 = (2 : Int))))
  T.e T.e))))) (T.n (some (AV.b false)) (T.n (some (AV.i IntKind.i64 (Int.ofNat i))) (T.n none (T.n none (T.n (some (AV.b false)) T.e T.e) T.e) (T.n (some (AV.i IntKind.i64
  (Int.ofNat i))) (T.n (some (AV.b !SS.off (SS.wrS s (aa i) 64 (fB (wrapA IntKind.u8 (Int.ofNat i + (1 : Int))))) == false)) T.e T.e) T.e)) (T.n none (T.n (some (AV.i IntKind.i64
  (Int.ofNat L))) (T.n (some (AV.b false)) T.e T.e) T.e) (T.n (some (AV.i IntKind.i64 (aa i))) T.e (T.n (some (AV.b !decide (aa i < (4 : Int)))) T.e T.e)))) (T.n (some (AV.b false))
  (T.n none (T.n none (T.n (some (AV.b false)) T.e T.e) T.e) (T.n (some (AV.i IntKind.i64 (SS.wrE s (aa i) 64))) T.e (T.n (some (AV.b !decide (aa i < (4 : Int)) == decide (SS.wrE s
  (aa i) 64 = (0 : Int)))) T.e T.e))) (T.n none (T.n (some (AV.pv 1 fun c => CV.i IntKind.i64 (aa i))) (T.n (some (AV.tup [])) T.e T.e) T.e) (T.n (some (AV.b (decide (aa i < (4 :
  Int))))) T.e (T.n (some (AV.b !decide (SS.wrE s (aa i) 64 = (2 : Int)))) T.e T.e))))))) { tree := T.n (some (AObj.segs 73 33799 [{ st := 0, sz := 1, n := 1, f := oneF (CV.i IntKind.i64 (Int.ofNat (SS.n (SS.wrS s (aa i) 64 (fB (wrapA IntKind.u8 (Int.ofNat i + (1 : Int)))))))) }, { st := 1, sz := 65, n := 512, f := durF (SS.dur (SS.wrS s (aa i) 64 (fB (wrapA IntKind.u8 (Int.ofNat i + (1 : Int)))))) (SS.torn (SS.wrS s (aa i) 64 (fB (wrapA IntKind.u8 (Int.ofNat i + (1 : Int)))))) }, { st := 33281, sz := 1, n := 1, f := oneF (CV.opv (pB (SS.P (SS.wrS s (aa i) 64 (fB (wrapA IntKind.u8 (Int.ofNat i + (1 : Int))))))) 66 (pW (SS.P (SS.wrS s (aa i) 64 (fB (wrapA IntKind.u8 (Int.ofNat i + (1 : Int)))))))) }, { st := 33282, sz := 1, n := 512, f := latF (lB (SS.P (SS.wrS s (aa i) 64 (fB (wrapA IntKind.u8 (Int.ofNat i + (1 : Int))))))) (lW (SS.P (SS.wrS s (aa i) 64 (fB (wrapA IntKind.u8 (Int.ofNat i + (1 : Int))))))) }, { st := 33794, sz := 5, n := 1, f := tailF (Int.ofNat (List.length (SS.P (SS.wrS s (aa i) 64 (fB (wrapA IntKind.u8 (Int.ofNat i + (1 : Int)))))))) (Int.ofNat (SS.wr (SS.wrS s (aa i) 64 (fB (wrapA IntKind.u8 (Int.ofNat i + (1 : Int))))))) (SS.off (SS.wrS s (aa i) 64 (fB (wrapA IntKind.u8 (Int.ofNat i + (1 : Int)))))) (SS.armed (SS.wrS s (aa i) 64 (fB (wrapA IntKind.u8 (Int.ofNat i + (1 : Int)))))) (Int.ofNat (SS.left (SS.wrS s (aa i) 64 (fB (wrapA IntKind.u8 (Int.ofNat i + (1 : Int))))))) }])) (T.n (some (AObj.rows 5 1 64 (fF (wrapA IntKind.u8 (Int.ofNat i + (1 : Int)))))) T.e T.e) T.e, next := 2, log := [0, 1] })
  Orc.z) ∧ ((!decide (SS.wrE s (aa i) 64 = (2 : Int))) = false → decide (aa i < (4 : Int)) = false ∧ ((-9223372036854775808 : Int) ≤ Int.ofNat i + (1 : Int) ∧ Int.ofNat i + (1 :
  Int) ≤ (9223372036854775807 : Int)) ∧ K (Res.st XO.nrm (T.n (some (AV.i IntKind.i64 k)) (T.n none (T.n none (T.n (some (AV.p 0 0)) (T.n none (T.n none (T.n (some (AV.tup [])) (T.n
  (some (AV.b (decide (aa i < (4 : Int))))) T.e T.e) T.e) T.e) (T.n (some (AV.i IntKind.i64 (aa i))) (T.n (some (AV.tup [])) T.e T.e) T.e)) (T.n none (T.n none (T.n (some (AV.p 0
  0)) T.e T.e) T.e) (T.n (some (AV.i IntKind.i64 (aa i))) T.e (T.n (some (AV.b !decide (aa i < (4 : Int)) == decide (SS.wrE s (aa i) 64 = (0 : Int)))) T.e T.e)))) (T.n (some (AV.i
  IntKind.i64 (aa i))) (T.n none (T.n none (T.n (some (AV.tup [])) T.e T.e) T.e) (T.n (some (AV.i IntKind.i64 (Int.ofNat i + (1 : Int)))) (T.n (some (AV.b false)) T.e T.e) (T.n
  (some (AV.b (decide (aa i < (4 : Int))))) T.e T.e))) (T.n none (T.n (some (AV.i IntKind.i64 (Int.ofNat i + (1 : Int)))) (T.n (some (AV.p 0 0)) T.e T.e) T.e) (T.n (some (AV.b
  (decide (aa i < (4 : Int))))) T.e (T.n (some (AV.i IntKind.i64 (SS.wrE s (aa i) 64))) T.e T.e))))) (T.n none (T.n (some (AV.i IntKind.i64 (Int.ofNat tk))) (T.n none (T.n none (T.n
  (some (AV.b false)) T.e T.e) T.e) (T.n (some (AV.i IntKind.i64 (aa i))) (T.n (some (AV.b false)) T.e T.e) T.e)) (T.n none (T.n (some (AV.sv 1 L fun i x => CV.i IntKind.i64 (aa
  i))) (T.n (some (AV.b false)) T.e T.e) T.e) (T.n (some (AV.b (decide ((0 : Int) ≤ aa i)))) T.e (T.n (some (AV.b !decide (aa i < (4 : Int)))) T.e T.e)))) (T.n (some (AV.b (decide
  (aa i < (4 : Int))))) (T.n none (T.n none (T.n (some (AV.tup [])) T.e T.e) T.e) (T.n (some (AV.lr 1 1 0 64 false)) T.e (T.n (some (AV.b (decide (SS.wrE s (aa i) 64 = (0 : Int)))))
  T.e T.e))) (T.n none (T.n (some (AV.i IntKind.i64 (Int.ofNat i))) (T.n (some (AV.b (SS.off (SS.wrS s (aa i) 64 (fB (wrapA IntKind.u8 (Int.ofNat i + (1 : Int)))))))) T.e T.e) T.e)
  (T.n (some (AV.b (decide (aa i < (4 : Int))))) T.e (T.n (some (AV.b !decide (SS.wrE s (aa i) 64 = (2 : Int)))) T.e T.e)))))) (T.n (some (AV.i IntKind.i64 keep)) (T.n none (T.n
  none (T.n none (T.n none (T.n (some (AV.tup [])) T.e T.e) T.e) (T.n (some (AV.p 0 0)) (T.n (some (AV.b false)) T.e T.e) T.e)) (T.n none (T.n none (T.n (some (AV.b (SS.off (SS.wrS
  s (aa i) 64 (fB (wrapA IntKind.u8 (Int.ofNat i + (1 : Int)))))))) T.e T.e) T.e) (T.n (some (AV.b (decide ((0 : Int) ≤ aa i)))) T.e (T.n (some (AV.b (decide (aa i < (4 : Int)))))
  T.e T.e)))) (T.n (some (AV.i IntKind.i64 (SS.wrE s (aa i) 64))) (T.n none (T.n none (T.n (some (AV.tup [])) T.e T.e) T.e) (T.n (some (AV.i IntKind.u8 (wrapA IntKind.u8 (Int.ofNat
  i + (1 : Int))))) T.e (T.n (some (AV.i IntKind.i64 (SS.wrE s (aa i) 64))) T.e T.e))) (T.n none (T.n (some (AV.b (decide (Int.ofNat i < Int.ofNat L)))) (T.n (some (AV.b (SS.off
  (SS.wrS s (aa i) 64 (fB (wrapA IntKind.u8 (Int.ofNat i + (1 : Int)))))))) T.e T.e) T.e) (T.n (some (AV.b (decide (aa i < (4 : Int))))) T.e (T.n (some (AV.b !decide (SS.wrE s (aa
  i) 64 = (2 : Int)))) T.e T.e))))) (T.n none (T.n (some (AV.i IntKind.i64 (Int.ofNat i))) (T.n none (T.n none (T.n (some (AV.b false)) (T.n (some (AV.i IntKind.i64 (Int.ofNat i +
  (1 : Int)))) T.e T.e) T.e) T.e) (T.n (some (AV.i IntKind.i64 (Int.ofNat i))) (T.n (some (AV.b !SS.off (SS.wrS s (aa i) 64 (fB (wrapA IntKind.u8 (Int.ofNat i + (1 : Int))))) ==
  false)) T.e T.e) T.e)) (T.n none (T.n (some (AV.i IntKind.i64 (Int.ofNat L))) (T.n (some (AV.b false)) T.e T.e) T.e) (T.n (some (AV.i IntKind.i64 (aa i))) T.e (T.n (some (AV.b
  !decide (aa i < (4 : Int)))) T.e T.e)))) (T.n (some (AV.b false)) (T.n none (T.n none (T.n (some (AV.b false)) T.e T.e) T.e) (T.n (some (AV.i IntKind.i64 (SS.wrE s (aa i) 64)))
  T.e (T.n (some (AV.b !decide (aa i < (4 : Int)) == decide (SS.wrE s (aa i) 64 = (0 : Int)))) T.e T.e))) (T.n none (T.n (some (AV.pv 1 fun c => CV.i IntKind.i64 (aa i))) (T.n (some
  (AV.tup [])) T.e T.e) T.e) (T.n (some (AV.b (decide (aa i < (4 : Int))))) T.e (T.n (some (AV.b !decide (SS.wrE s (aa i) 64 = (2 : Int)))) T.e T.e))))))) { tree := T.n (some (AObj.segs 73 33799 [{ st := 0, sz := 1, n := 1, f := oneF (CV.i IntKind.i64 (Int.ofNat (SS.n (SS.wrS s (aa i) 64 (fB (wrapA IntKind.u8 (Int.ofNat i + (1 : Int)))))))) }, { st := 1, sz := 65, n := 512, f := durF (SS.dur (SS.wrS s (aa i) 64 (fB (wrapA IntKind.u8 (Int.ofNat i + (1 : Int)))))) (SS.torn (SS.wrS s (aa i) 64 (fB (wrapA IntKind.u8 (Int.ofNat i + (1 : Int)))))) }, { st := 33281, sz := 1, n := 1, f := oneF (CV.opv (pB (SS.P (SS.wrS s (aa i) 64 (fB (wrapA IntKind.u8 (Int.ofNat i + (1 : Int))))))) 66 (pW (SS.P (SS.wrS s (aa i) 64 (fB (wrapA IntKind.u8 (Int.ofNat i + (1 : Int)))))))) }, { st := 33282, sz := 1, n := 512, f := latF (lB (SS.P (SS.wrS s (aa i) 64 (fB (wrapA IntKind.u8 (Int.ofNat i + (1 : Int))))))) (lW (SS.P (SS.wrS s (aa i) 64 (fB (wrapA IntKind.u8 (Int.ofNat i + (1 : Int))))))) }, { st := 33794, sz := 5, n := 1, f := tailF (Int.ofNat (List.length (SS.P (SS.wrS s (aa i) 64 (fB (wrapA IntKind.u8 (Int.ofNat i + (1 : Int)))))))) (Int.ofNat (SS.wr (SS.wrS s (aa i) 64 (fB (wrapA IntKind.u8 (Int.ofNat i + (1 : Int))))))) (SS.off (SS.wrS s (aa i) 64 (fB (wrapA IntKind.u8 (Int.ofNat i + (1 : Int)))))) (SS.armed (SS.wrS s (aa i) 64 (fB (wrapA IntKind.u8 (Int.ofNat i + (1 : Int)))))) (Int.ofNat (SS.left (SS.wrS s (aa i) 64 (fB (wrapA IntKind.u8 (Int.ofNat i + (1 : Int))))))) }])) (T.n (some (AObj.rows 5 1 64 (fF (wrapA IntKind.u8 (Int.ofNat i + (1 : Int)))))) T.e T.e) T.e, next := 2, log := [0, 1] })
  Orc.z)) ∧ ((!!decide (aa i < (4 : Int)) == decide (SS.wrE s (aa i) 64 = (0 : Int))) = false → (!!decide (aa i < (4 : Int)) == decide (SS.wrE s (aa i) 64 = (0 : Int))) = false ∧
  (!!decide (aa i < (4 : Int)) == decide (SS.wrE s (aa i) 64 = (0 : Int))) = false ∧ (!!decide (aa i < (4 : Int)) == decide (SS.wrE s (aa i) 64 = (0 : Int))) = false ∧ (!decide (aa
  i < (4 : Int)) == decide (SS.wrE s (aa i) 64 = (0 : Int))) = true ∧ K (Res.st XO.ret (T.n (some (AV.i IntKind.i64 k)) (T.n none (T.n none (T.n (some (AV.p 0 0)) (T.n none (T.n
  none (T.n (some (AV.tup [])) T.e T.e) T.e) (T.n (some (AV.i IntKind.i64 (aa i))) (T.n (some (AV.tup [])) T.e T.e) T.e)) (T.n none (T.n none (T.n (some (AV.p 0 0)) T.e T.e) T.e)
  (T.n (some (AV.i IntKind.i64 (aa i))) T.e (T.n (some (AV.b !decide (aa i < (4 : Int)) == decide (SS.wrE s (aa i) 64 = (0 : Int)))) T.e T.e)))) (T.n (some (AV.i IntKind.i64 (aa
  i))) (T.n none (T.n none (T.n (some (AV.tup [])) T.e T.e) T.e) (T.n (some (AV.i IntKind.i64 (Int.ofNat i + (1 : Int)))) (T.n (some (AV.b false)) T.e T.e) (T.n (some (AV.b (decide
  (aa i < (4 : Int))))) T.e T.e))) (T.n none (T.n (some (AV.i IntKind.i64 (Int.ofNat i))) (T.n (some (AV.p 0 0)) T.e T.e) T.e) (T.n (some (AV.b (decide (aa i < (4 : Int))))) T.e
  (T.n (some (AV.tup [])) T.e T.e))))) (T.n none (T.n (some (AV.i IntKind.i64 (Int.ofNat tk))) (T.n none (T.n none (T.n (some (AV.b false)) T.e T.e) T.e) (T.n (some (AV.i
  IntKind.i64 (aa i))) (T.n (some (AV.b false)) T.e T.e) T.e)) (T.n none (T.n (some (AV.sv 1 L fun i x => CV.i IntKind.i64 (aa i))) (T.n (some (AV.b false)) T.e T.e) T.e) (T.n (some
  (AV.b (decide ((0 : Int) ≤ aa i)))) T.e (T.n (some (AV.tup [])) T.e T.e)))) (T.n (some (AV.b (decide (aa i < (4 : Int))))) (T.n none (T.n none (T.n (some (AV.tup [])) T.e T.e)
  T.e) (T.n (some (AV.lr 1 1 0 64 false)) T.e (T.n (some (AV.b (decide (SS.wrE s (aa i) 64 = (0 : Int))))) T.e T.e))) (T.n none (T.n (some (AV.i IntKind.i64 (Int.ofNat i))) (T.n
  (some (AV.b (SS.off (SS.wrS s (aa i) 64 (fB (wrapA IntKind.u8 (Int.ofNat i + (1 : Int)))))))) T.e T.e) T.e) (T.n (some (AV.b (decide (aa i < (4 : Int))))) T.e (T.n (some (AV.tup
  [])) T.e T.e)))))) (T.n (some (AV.i IntKind.i64 keep)) (T.n none (T.n none (T.n none (T.n none (T.n (some (AV.tup [])) T.e T.e) T.e) (T.n (some (AV.p 0 0)) (T.n (some (AV.b
  false)) T.e T.e) T.e)) (T.n none (T.n none (T.n (some (AV.b (SS.off (SS.wrS s (aa i) 64 (fB (wrapA IntKind.u8 (Int.ofNat i + (1 : Int)))))))) T.e T.e) T.e) (T.n (some (AV.b
  (decide ((0 : Int) ≤ aa i)))) T.e (T.n (some (AV.tup [])) T.e T.e)))) (T.n (some (AV.i IntKind.i64 (SS.wrE s (aa i) 64))) (T.n none (T.n none (T.n (some (AV.tup [])) T.e T.e) T.e)
  (T.n (some (AV.i IntKind.u8 (wrapA IntKind.u8 (Int.ofNat i + (1 : Int))))) T.e (T.n (some (AV.i IntKind.i64 (SS.wrE s (aa i) 64))) T.e T.e))) (T.n none (T.n (some (AV.b (decide
  (Int.ofNat i < Int.ofNat L)))) (T.n (some (AV.b (SS.off (SS.wrS s (aa i) 64 (fB (wrapA IntKind.u8 (Int.ofNat i + (1 : Int)))))))) T.e T.e) T.e) (T.n (some (AV.b (decide (aa i < (4
  : Int))))) T.e (T.n (some (AV.tup [])) T.e T.e))))) (T.n (some (AV.b false)) (T.n (some (AV.i IntKind.i64 (Int.ofNat i))) (T.n none (T.n none (T.n (some (AV.b false)) T.e T.e)
  T.e) (T.n (some (AV.i IntKind.i64 (Int.ofNat i))) (T.n (some (AV.b !SS.off (SS.wrS s (aa i) 64 (fB (wrapA IntKind.u8 (Int.ofNat i + (1 : Int))))) == false)) T.e T.e) T.e)) (T.n
  none (T.n (some (AV.i IntKind.i64 (Int.ofNat L))) (T.n (some (AV.b false)) T.e T.e) T.e) (T.n (some (AV.i IntKind.i64 (aa i))) T.e (T.n (some (AV.tup [])) T.e T.e)))) (T.n (some
  (AV.b false)) (T.n none (T.n none (T.n (some (AV.b false)) T.e T.e) T.e) (T.n (some (AV.i IntKind.i64 (SS.wrE s (aa i) 64))) T.e (T.n (some (AV.b !decide (aa i < (4 : Int)) ==
  decide (SS.wrE s (aa i) 64 = (0 : Int)))) T.e T.e))) (T.n none (T.n (some (AV.pv 1 fun c => CV.i IntKind.i64 (aa i))) (T.n (some (AV.tup [])) T.e T.e) T.e) (T.n (some (AV.b
  (decide (aa i < (4 : Int))))) T.e (T.n (some (AV.b true)) T.e T.e))))))) { tree := T.n (some (AObj.segs 73 33799 [{ st := 0, sz := 1, n := 1, f := oneF (CV.i IntKind.i64 (Int.ofNat (SS.n (SS.wrS s (aa i) 64 (fB (wrapA IntKind.u8 (Int.ofNat i + (1 : Int)))))))) }, { st := 1, sz := 65, n := 512, f := durF (SS.dur (SS.wrS s (aa i) 64 (fB (wrapA IntKind.u8 (Int.ofNat i + (1 : Int)))))) (SS.torn (SS.wrS s (aa i) 64 (fB (wrapA IntKind.u8 (Int.ofNat i + (1 : Int)))))) }, { st := 33281, sz := 1, n := 1, f := oneF (CV.opv (pB (SS.P (SS.wrS s (aa i) 64 (fB (wrapA IntKind.u8 (Int.ofNat i + (1 : Int))))))) 66 (pW (SS.P (SS.wrS s (aa i) 64 (fB (wrapA IntKind.u8 (Int.ofNat i + (1 : Int)))))))) }, { st := 33282, sz := 1, n := 512, f := latF (lB (SS.P (SS.wrS s (aa i) 64 (fB (wrapA IntKind.u8 (Int.ofNat i + (1 : Int))))))) (lW (SS.P (SS.wrS s (aa i) 64 (fB (wrapA IntKind.u8 (Int.ofNat i + (1 : Int))))))) }, { st := 33794, sz := 5, n := 1, f := tailF (Int.ofNat (List.length (SS.P (SS.wrS s (aa i) 64 (fB (wrapA IntKind.u8 (Int.ofNat i + (1 : Int)))))))) (Int.ofNat (SS.wr (SS.wrS s (aa i) 64 (fB (wrapA IntKind.u8 (Int.ofNat i + (1 : Int))))))) (SS.off (SS.wrS s (aa i) 64 (fB (wrapA IntKind.u8 (Int.ofNat i + (1 : Int)))))) (SS.armed (SS.wrS s (aa i) 64 (fB (wrapA IntKind.u8 (Int.ofNat i + (1 : Int)))))) (Int.ofNat (SS.left (SS.wrS s (aa i) 64 (fB (wrapA IntKind.u8 (Int.ofNat i + (1 : Int))))))) }])) (T.n (some (AObj.rows 5 1 64 (fF (wrapA IntKind.u8 (Int.ofNat i + (1 : Int)))))) T.e T.e) T.e, next := 2, log := [0, 1] })
  Orc.z)))) ∧ (decide ((0 : Int) ≤ aa i) = false → decide ((0 : Int) ≤ aa i) = false ∧ decide ((0 : Int) ≤ aa i) = false ∧ Con Try.prog 27 [AV.p 0 0] [some (SS.o (SS.wrS s (aa i) 64
  (fB (wrapA IntKind.u8 (Int.ofNat i + (1 : Int))))))] (AV.b (SS.off (SS.wrS s (aa i) 64 (fB (wrapA IntKind.u8 (Int.ofNat i + (1 : Int))))))) [Upd.keep] ∧ Con Try.prog 27 [AV.p 0 0]
  [some (SS.o (SS.wrS s (aa i) 64 (fB (wrapA IntKind.u8 (Int.ofNat i + (1 : Int))))))] (AV.b (SS.off (SS.wrS s (aa i) 64 (fB (wrapA IntKind.u8 (Int.ofNat i + (1 : Int)))))))
  [Upd.keep] ∧ (SS.off (SS.wrS s (aa i) 64 (fB (wrapA IntKind.u8 (Int.ofNat i + (1 : Int))))) = true → SS.off (SS.wrS s (aa i) 64 (fB (wrapA IntKind.u8 (Int.ofNat i + (1 : Int)))))
  = true ∧ SS.off (SS.wrS s (aa i) 64 (fB (wrapA IntKind.u8 (Int.ofNat i + (1 : Int))))) = true ∧ True ∧ ((!SS.off (SS.wrS s (aa i) 64 (fB (wrapA IntKind.u8 (Int.ofNat i + (1 :
  Int))))) == decide (SS.wrE s (aa i) 64 = (13 : Int))) = true → K (Res.st XO.ret (T.n (some (AV.i IntKind.i64 k)) (T.n none (T.n none (T.n (some (AV.p 0 0)) (T.n none (T.n none
  (T.n (some (AV.tup [])) T.e T.e) T.e) (T.n (some (AV.i IntKind.i64 (aa i))) (T.n (some (AV.b (decide (SS.wrE s (aa i) 64 = (13 : Int))))) T.e T.e) T.e)) (T.n none (T.n none (T.n
  (some (AV.p 0 0)) T.e T.e) T.e) (T.n (some (AV.i IntKind.i64 (aa i))) T.e T.e))) (T.n (some (AV.i IntKind.i64 (aa i))) (T.n none (T.n none (T.n (some (AV.tup [])) T.e T.e) T.e)
  (T.n (some (AV.i IntKind.i64 (Int.ofNat i + (1 : Int)))) T.e T.e)) (T.n none (T.n (some (AV.i IntKind.i64 (Int.ofNat i))) (T.n (some (AV.p 0 0)) T.e T.e) T.e) (T.n (some (AV.tup
  [])) T.e T.e)))) (T.n none (T.n (some (AV.i IntKind.i64 (Int.ofNat tk))) (T.n none (T.n none (T.n (some (AV.b false)) T.e T.e) T.e) (T.n (some (AV.i IntKind.i64 (aa i))) (T.n
  (some (AV.b (decide (SS.wrE s (aa i) 64 = (13 : Int))))) T.e T.e) T.e)) (T.n none (T.n (some (AV.sv 1 L fun i x => CV.i IntKind.i64 (aa i))) (T.n (some (AV.b false)) T.e T.e) T.e)
  (T.n (some (AV.b (decide ((0 : Int) ≤ aa i)))) T.e T.e))) (T.n (some (AV.b false)) (T.n none (T.n none (T.n (some (AV.tup [])) T.e T.e) T.e) (T.n (some (AV.lr 1 1 0 64 false)) T.e
  T.e)) (T.n none (T.n (some (AV.i IntKind.i64 (Int.ofNat i))) (T.n (some (AV.b (SS.off (SS.wrS s (aa i) 64 (fB (wrapA IntKind.u8 (Int.ofNat i + (1 : Int)))))))) T.e T.e) T.e) (T.n
  (some (AV.b false)) T.e T.e))))) (T.n (some (AV.i IntKind.i64 keep)) (T.n none (T.n none (T.n none (T.n none (T.n (some (AV.tup [])) T.e T.e) T.e) (T.n (some (AV.p 0 0)) (T.n
  (some (AV.b (decide (SS.wrE s (aa i) 64 = (13 : Int))))) T.e T.e) T.e)) (T.n none (T.n none (T.n (some (AV.b (SS.off (SS.wrS s (aa i) 64 (fB (wrapA IntKind.u8 (Int.ofNat i + (1 :
  Int)))))))) T.e T.e) T.e) (T.n (some (AV.b (decide ((0 : Int) ≤ aa i)))) T.e T.e))) (T.n (some (AV.i IntKind.i64 (SS.wrE s (aa i) 64))) (T.n none (T.n none (T.n (some (AV.tup []))
  T.e T.e) T.e) (T.n (some (AV.i IntKind.u8 (wrapA IntKind.u8 (Int.ofNat i + (1 : Int))))) T.e T.e)) (T.n none (T.n (some (AV.b (decide (Int.ofNat i < Int.ofNat L)))) (T.n (some
  (AV.b (SS.off (SS.wrS s (aa i) 64 (fB (wrapA IntKind.u8 (Int.ofNat i + (1 : Int)))))))) T.e T.e) T.e) (T.n (some (AV.b false)) T.e T.e)))) (T.n (some (AV.b false)) (T.n (some
  (AV.i IntKind.i64 (Int.ofNat i))) (T.n none (T.n none (T.n (some (AV.b false)) T.e T.e) T.e) (T.n (some (AV.i IntKind.i64 (Int.ofNat i))) (T.n (some (AV.b !SS.off (SS.wrS s (aa i)
  64 (fB (wrapA IntKind.u8 (Int.ofNat i + (1 : Int))))) == decide (SS.wrE s (aa i) 64 = (13 : Int)))) T.e T.e) T.e)) (T.n none (T.n (some (AV.i IntKind.i64 (Int.ofNat L))) (T.n
  (some (AV.b false)) T.e T.e) T.e) (T.n (some (AV.tup [])) T.e T.e))) (T.n (some (AV.b false)) (T.n none (T.n none (T.n (some (AV.b false)) T.e T.e) T.e) (T.n (some (AV.i
  IntKind.i64 (SS.wrE s (aa i) 64))) T.e T.e)) (T.n none (T.n (some (AV.pv 1 fun c => CV.i IntKind.i64 (aa i))) (T.n (some (AV.i IntKind.i64 (SS.wrE s (aa i) 64))) T.e T.e) T.e)
  (T.n (some (AV.b false)) T.e T.e)))))) { tree := T.n (some (AObj.segs 73 33799 [{ st := 0, sz := 1, n := 1, f := oneF (CV.i IntKind.i64 (Int.ofNat (SS.n (SS.wrS s (aa i) 64 (fB (wrapA IntKind.u8 (Int.ofNat i + (1 : Int)))))))) }, { st := 1, sz := 65, n := 512, f := durF (SS.dur (SS.wrS s (aa i) 64 (fB (wrapA IntKind.u8 (Int.ofNat i + (1 : Int)))))) (SS.torn (SS.wrS s (aa i) 64 (fB (wrapA IntKind.u8 (Int.ofNat i + (1 : Int)))))) }, { st := 33281, sz := 1, n := 1, f := oneF (CV.opv (pB (SS.P (SS.wrS s (aa i) 64 (fB (wrapA IntKind.u8 (Int.ofNat i + (1 : Int))))))) 66 (pW (SS.P (SS.wrS s (aa i) 64 (fB (wrapA IntKind.u8 (Int.ofNat i + (1 : Int)))))))) }, { st := 33282, sz := 1, n := 512, f := latF (lB (SS.P (SS.wrS s (aa i) 64 (fB (wrapA IntKind.u8 (Int.ofNat i + (1 : Int))))))) (lW (SS.P (SS.wrS s (aa i) 64 (fB (wrapA IntKind.u8 (Int.ofNat i + (1 : Int))))))) }, { st := 33794, sz := 5, n := 1, f := tailF (Int.ofNat (List.length (SS.P (SS.wrS s (aa i) 64 (fB (wrapA IntKind.u8 (Int.ofNat i + (1 : Int)))))))) (Int.ofNat (SS.wr (SS.wrS s (aa i) 64 (fB (wrapA IntKind.u8 (Int.ofNat i + (1 : Int))))))) (SS.off (SS.wrS s (aa i) 64 (fB (wrapA IntKind.u8 (Int.ofNat i + (1 : Int)))))) (SS.armed (SS.wrS s (aa i) 64 (fB (wrapA IntKind.u8 (Int.ofNat i + (1 : Int)))))) (Int.ofNat (SS.left (SS.wrS s (aa i) 64 (fB (wrapA IntKind.u8 (Int.ofNat i + (1 : Int))))))) }])) (T.n (some (AObj.rows 5 1 64 (fF (wrapA IntKind.u8 (Int.ofNat i + (1 : Int)))))) T.e T.e) T.e, next := 2, log := [0, 1] })
  Orc.z) ∧ ((!SS.off (SS.wrS s (aa i) 64 (fB (wrapA IntKind.u8 (Int.ofNat i + (1 : Int))))) == decide (SS.wrE s (aa i) 64 = (13 : Int))) = false → True ∧ ((!!false == decide (SS.wrE
  s (aa i) 64 = (0 : Int))) = true → (!!false == decide (SS.wrE s (aa i) 64 = (0 : Int))) = true ∧ True ∧ (!!false == decide (SS.wrE s (aa i) 64 = (0 : Int))) = true ∧ (!!false ==
  decide (SS.wrE s (aa i) 64 = (0 : Int))) = true ∧ (!false == decide (SS.wrE s (aa i) 64 = (0 : Int))) = false ∧ ((!decide (SS.wrE s (aa i) 64 = (2 : Int))) = true → K (Res.st
  XO.ret (T.n (some (AV.i IntKind.i64 k)) (T.n none (T.n none (T.n (some (AV.p 0 0)) (T.n none (T.n none (T.n (some (AV.tup [])) T.e T.e) T.e) (T.n (some (AV.i IntKind.i64 (aa i)))
  (T.n (some (AV.b (decide (SS.wrE s (aa i) 64 = (13 : Int))))) T.e T.e) T.e)) (T.n none (T.n none (T.n (some (AV.p 0 0)) T.e T.e) T.e) (T.n (some (AV.i IntKind.i64 (aa i))) T.e
  (T.n (some (AV.b !false == decide (SS.wrE s (aa i) 64 = (0 : Int)))) T.e T.e)))) (T.n (some (AV.i IntKind.i64 (aa i))) (T.n none (T.n none (T.n (some (AV.tup [])) T.e T.e) T.e)
  (T.n (some (AV.i IntKind.i64 (Int.ofNat i + (1 : Int)))) (T.n (some (AV.b false)) T.e T.e) (T.n (some (AV.b false)) T.e T.e))) (T.n none (T.n (some (AV.i IntKind.i64 (Int.ofNat
  i))) (T.n (some (AV.p 0 0)) T.e T.e) T.e) (T.n (some (AV.tup [])) T.e (T.n (some (AV.i IntKind.i64 (SS.wrE s (aa i) 64))) T.e T.e))))) (T.n none (T.n (some (AV.i IntKind.i64
  (Int.ofNat tk))) (T.n none (T.n none (T.n (some (AV.b false)) T.e T.e) T.e) (T.n (some (AV.i IntKind.i64 (aa i))) (T.n (some (AV.b (decide (SS.wrE s (aa i) 64 = (13 : Int))))) T.e
  T.e) T.e)) (T.n none (T.n (some (AV.sv 1 L fun i x => CV.i IntKind.i64 (aa i))) (T.n (some (AV.b false)) T.e T.e) T.e) (T.n (some (AV.b (decide ((0 : Int) ≤ aa i)))) T.e (T.n
  (some (AV.b true)) T.e T.e)))) (T.n (some (AV.b false)) (T.n none (T.n none (T.n (some (AV.tup [])) T.e T.e) T.e) (T.n (some (AV.lr 1 1 0 64 false)) T.e (T.n (some (AV.b (decide
  (SS.wrE s (aa i) 64 = (0 : Int))))) T.e T.e))) (T.n none (T.n (some (AV.i IntKind.i64 (Int.ofNat i))) (T.n (some (AV.b (SS.off (SS.wrS s (aa i) 64 (fB (wrapA IntKind.u8 (Int.ofNat
  i + (1 : Int)))))))) T.e T.e) T.e) (T.n (some (AV.b false)) T.e (T.n (some (AV.b !decide (SS.wrE s (aa i) 64 = (2 : Int)))) T.e T.e)))))) (T.n (some (AV.i IntKind.i64 keep)) (T.n
  none (T.n none (T.n none (T.n none (T.n (some (AV.tup [])) T.e T.e) T.e) (T.n (some (AV.p 0 0)) (T.n (some (AV.b (decide (SS.wrE s (aa i) 64 = (13 : Int))))) T.e T.e) T.e)) (T.n
  none (T.n none (T.n (some (AV.b (SS.off (SS.wrS s (aa i) 64 (fB (wrapA IntKind.u8 (Int.ofNat i + (1 : Int)))))))) T.e T.e) T.e) (T.n (some (AV.b (decide ((0 : Int) ≤ aa i)))) T.e
  (T.n (some (AV.b false)) T.e T.e)))) (T.n (some (AV.i IntKind.i64 (SS.wrE s (aa i) 64))) (T.n none (T.n none (T.n (some (AV.tup [])) T.e T.e) T.e) (T.n (some (AV.i IntKind.u8
  (wrapA IntKind.u8 (Int.ofNat i + (1 : Int))))) T.e (T.n (some (AV.i IntKind.i64 (SS.wrE s (aa i) 64))) T.e T.e))) (T.n none (T.n (some (AV.b (decide (Int.ofNat i < Int.ofNat L))))
  (T.n (some (AV.b (SS.off (SS.wrS s (aa i) 64 (fB (wrapA IntKind.u8 (Int.ofNat i + (1 : Int)))))))) T.e T.e) T.e) (T.n (some (AV.b false)) T.e (T.n (some (AV.b !decide (SS.wrE s
  (aa i) 64 = (2 : Int)))) T.e T.e))))) (T.n (some (AV.b false)) (T.n (some (AV.i IntKind.i64 (Int.ofNat i))) (T.n none (T.n none (T.n (some (AV.b false)) T.e T.e) T.e) (T.n (some
  (AV.i IntKind.i64 (Int.ofNat i))) (T.n (some (AV.b !SS.off (SS.wrS s (aa i) 64 (fB (wrapA IntKind.u8 (Int.ofNat i + (1 : Int))))) == decide (SS.wrE s (aa i) 64 = (13 : Int)))) T.e
  T.e) T.e)) (T.n none (T.n (some (AV.i IntKind.i64 (Int.ofNat L))) (T.n (some (AV.b false)) T.e T.e) T.e) (T.n (some (AV.tup [])) T.e (T.n (some (AV.b true)) T.e T.e)))) (T.n (some
  (AV.b false)) (T.n none (T.n none (T.n (some (AV.b false)) T.e T.e) T.e) (T.n (some (AV.i IntKind.i64 (SS.wrE s (aa i) 64))) T.e (T.n (some (AV.b !false == decide (SS.wrE s (aa i)
  64 = (0 : Int)))) T.e T.e))) (T.n none (T.n (some (AV.pv 1 fun c => CV.i IntKind.i64 (aa i))) (T.n (some (AV.i IntKind.i64 (SS.wrE s (aa i) 64))) T.e T.e) T.e) (T.n (some (AV.b
  false)) T.e (T.n (some (AV.b !decide (SS.wrE s (aa i) 64 = (2 : Int)))) T.e T.e))))))) { tree := T.n (some (AObj.segs 73 33799 [{ st := 0, sz := 1, n := 1, f := oneF (CV.i IntKind.i64 (Int.ofNat (SS.n (SS.wrS s (aa i) 64 (fB (wrapA IntKind.u8 (Int.ofNat i + (1 : Int)))))))) }, { st := 1, sz := 65, n := 512, f := durF (SS.dur (SS.wrS s (aa i) 64 (fB (wrapA IntKind.u8 (Int.ofNat i + (1 : Int)))))) (SS.torn (SS.wrS s (aa i) 64 (fB (wrapA IntKind.u8 (Int.ofNat i + (1 : Int)))))) }, { st := 33281, sz := 1, n := 1, f := oneF (CV.opv (pB (SS.P (SS.wrS s (aa i) 64 (fB (wrapA IntKind.u8 (Int.ofNat i + (1 : Int))))))) 66 (pW (SS.P (SS.wrS s (aa i) 64 (fB (wrapA IntKind.u8 (Int.ofNat i + (1 : Int)))))))) }, { st := 33282, sz := 1, n := 512, f := latF (lB (SS.P (SS.wrS s (aa i) 64 (fB (wrapA IntKind.u8 (Int.ofNat i + (1 : Int))))))) (lW (SS.P (SS.wrS s (aa i) 64 (fB (wrapA IntKind.u8 (Int.ofNat i + (1 : Int))))))) }, { st := 33794, sz := 5, n := 1, f := tailF (Int.ofNat (List.length (SS.P (SS.wrS s (aa i) 64 (fB (wrapA IntKind.u8 (Int.ofNat i + (1 : Int)))))))) (Int.ofNat (SS.wr (SS.wrS s (aa i) 64 (fB (wrapA IntKind.u8 (Int.ofNat i + (1 : Int))))))) (SS.off (SS.wrS s (aa i) 64 (fB (wrapA IntKind.u8 (Int.ofNat i + (1 : Int)))))) (SS.armed (SS.wrS s (aa i) 64 (fB (wrapA IntKind.u8 (Int.ofNat i + (1 : Int)))))) (Int.ofNat (SS.left (SS.wrS s (aa i) 64 (fB (wrapA IntKind.u8 (Int.ofNat i + (1 : Int))))))) }])) (T.n (some (AObj.rows 5 1 64 (fF (wrapA IntKind.u8 (Int.ofNat i + (1 : Int)))))) T.e T.e) T.e, next := 2, log := [0, 1] })
  Orc.z) ∧ ((!decide (SS.wrE s (aa i) 64 = (2 : Int))) = false → ((-9223372036854775808 : Int) ≤ Int.ofNat i + (1 : Int) ∧ Int.ofNat i + (1 : Int) ≤ (9223372036854775807 : Int)) ∧ K
  (Res.st XO.nrm (T.n (some (AV.i IntKind.i64 k)) (T.n none (T.n none (T.n (some (AV.p 0 0)) (T.n none (T.n none (T.n (some (AV.tup [])) (T.n (some (AV.b false)) T.e T.e) T.e) T.e)
  (T.n (some (AV.i IntKind.i64 (aa i))) (T.n (some (AV.b (decide (SS.wrE s (aa i) 64 = (13 : Int))))) T.e T.e) T.e)) (T.n none (T.n none (T.n (some (AV.p 0 0)) T.e T.e) T.e) (T.n
  (some (AV.i IntKind.i64 (aa i))) T.e (T.n (some (AV.b !false == decide (SS.wrE s (aa i) 64 = (0 : Int)))) T.e T.e)))) (T.n (some (AV.i IntKind.i64 (aa i))) (T.n none (T.n none
  (T.n (some (AV.tup [])) T.e T.e) T.e) (T.n (some (AV.i IntKind.i64 (Int.ofNat i + (1 : Int)))) (T.n (some (AV.b false)) T.e T.e) (T.n (some (AV.b false)) T.e T.e))) (T.n none (T.n
  (some (AV.i IntKind.i64 (Int.ofNat i + (1 : Int)))) (T.n (some (AV.p 0 0)) T.e T.e) T.e) (T.n (some (AV.tup [])) T.e (T.n (some (AV.i IntKind.i64 (SS.wrE s (aa i) 64))) T.e
  T.e))))) (T.n none (T.n (some (AV.i IntKind.i64 (Int.ofNat tk))) (T.n none (T.n none (T.n (some (AV.b false)) T.e T.e) T.e) (T.n (some (AV.i IntKind.i64 (aa i))) (T.n (some (AV.b
  (decide (SS.wrE s (aa i) 64 = (13 : Int))))) T.e T.e) T.e)) (T.n none (T.n (some (AV.sv 1 L fun i x => CV.i IntKind.i64 (aa i))) (T.n (some (AV.b false)) T.e T.e) T.e) (T.n (some
  (AV.b (decide ((0 : Int) ≤ aa i)))) T.e (T.n (some (AV.b true)) T.e T.e)))) (T.n (some (AV.b false)) (T.n none (T.n none (T.n (some (AV.tup [])) T.e T.e) T.e) (T.n (some (AV.lr 1
  1 0 64 false)) T.e (T.n (some (AV.b (decide (SS.wrE s (aa i) 64 = (0 : Int))))) T.e T.e))) (T.n none (T.n (some (AV.i IntKind.i64 (Int.ofNat i))) (T.n (some (AV.b (SS.off (SS.wrS
  s (aa i) 64 (fB (wrapA IntKind.u8 (Int.ofNat i + (1 : Int)))))))) T.e T.e) T.e) (T.n (some (AV.b false)) T.e (T.n (some (AV.b !decide (SS.wrE s (aa i) 64 = (2 : Int)))) T.e
  T.e)))))) (T.n (some (AV.i IntKind.i64 keep)) (T.n none (T.n none (T.n none (T.n none (T.n (some (AV.tup [])) T.e T.e) T.e) (T.n (some (AV.p 0 0)) (T.n (some (AV.b (decide (SS.wrE
  s (aa i) 64 = (13 : Int))))) T.e T.e) T.e)) (T.n none (T.n none (T.n (some (AV.b (SS.off (SS.wrS s (aa i) 64 (fB (wrapA IntKind.u8 (Int.ofNat i + (1 : Int)))))))) T.e T.e) T.e)
  (T.n (some (AV.b (decide ((0 : Int) ≤ aa i)))) T.e (T.n (some (AV.b false)) T.e T.e)))) (T.n (some (AV.i IntKind.i64 (SS.wrE s (aa i) 64))) (T.n none (T.n none (T.n (some (AV.tup
  [])) T.e T.e) T.e) (T.n (some (AV.i IntKind.u8 (wrapA IntKind.u8 (Int.ofNat i + (1 : Int))))) T.e (T.n (some (AV.i IntKind.i64 (SS.wrE s (aa i) 64))) T.e T.e))) (T.n none (T.n
  (some (AV.b (decide (Int.ofNat i < Int.ofNat L)))) (T.n (some (AV.b (SS.off (SS.wrS s (aa i) 64 (fB (wrapA IntKind.u8 (Int.ofNat i + (1 : Int)))))))) T.e T.e) T.e) (T.n (some
  (AV.b false)) T.e (T.n (some (AV.b !decide (SS.wrE s (aa i) 64 = (2 : Int)))) T.e T.e))))) (T.n none (T.n (some (AV.i IntKind.i64 (Int.ofNat i))) (T.n none (T.n none (T.n (some
  (AV.b false)) (T.n (some (AV.i IntKind.i64 (Int.ofNat i + (1 : Int)))) T.e T.e) T.e) T.e) (T.n (some (AV.i IntKind.i64 (Int.ofNat i))) (T.n (some (AV.b !SS.off (SS.wrS s (aa i) 64
  (fB (wrapA IntKind.u8 (Int.ofNat i + (1 : Int))))) == decide (SS.wrE s (aa i) 64 = (13 : Int)))) T.e T.e) T.e)) (T.n none (T.n (some (AV.i IntKind.i64 (Int.ofNat L))) (T.n (some
  (AV.b false)) T.e T.e) T.e) (T.n (some (AV.tup [])) T.e (T.n (some (AV.b true)) T.e T.e)))) (T.n (some (AV.b false)) (T.n none (T.n none (T.n (some (AV.b false)) T.e T.e) T.e)
  (T.n (some (AV.i IntKind.i64 (SS.wrE s (aa i) 64))) T.e (T.n (some (AV.b !false == decide (SS.wrE s (aa i) 64 = (0 : Int)))) T.e T.e))) (T.n none (T.n (some (AV.pv 1 fun c => CV.i
  IntKind.i64 (aa i))) (T.n (some (AV.i IntKind.i64 (SS.wrE s (aa i) 64))) T.e T.e) T.e) (T.n (some (AV.b false)) T.e (T.n (some (AV.b !decide (SS.wrE s (aa i) 64 = (2 : Int)))) T.e
  T.e))))))) { tree := T.n (some (AObj.segs 73 33799 [{ st := 0, sz := 1, n := 1, f := oneF (CV.i IntKind.i64 (Int.ofNat (SS.n (SS.wrS s (aa i) 64 (fB (wrapA IntKind.u8 (Int.ofNat i + (1 : Int)))))))) }, { st := 1, sz := 65, n := 512, f := durF (SS.dur (SS.wrS s (aa i) 64 (fB (wrapA IntKind.u8 (Int.ofNat i + (1 : Int)))))) (SS.torn (SS.wrS s (aa i) 64 (fB (wrapA IntKind.u8 (Int.ofNat i + (1 : Int)))))) }, { st := 33281, sz := 1, n := 1, f := oneF (CV.opv (pB (SS.P (SS.wrS s (aa i) 64 (fB (wrapA IntKind.u8 (Int.ofNat i + (1 : Int))))))) 66 (pW (SS.P (SS.wrS s (aa i) 64 (fB (wrapA IntKind.u8 (Int.ofNat i + (1 : Int)))))))) }, { st := 33282, sz := 1, n := 512, f := latF (lB (SS.P (SS.wrS s (aa i) 64 (fB (wrapA IntKind.u8 (Int.ofNat i + (1 : Int))))))) (lW (SS.P (SS.wrS s (aa i) 64 (fB (wrapA IntKind.u8 (Int.ofNat i + (1 : Int))))))) }, { st := 33794, sz := 5, n := 1, f := tailF (Int.ofNat (List.length (SS.P (SS.wrS s (aa i) 64 (fB (wrapA IntKind.u8 (Int.ofNat i + (1 : Int)))))))) (Int.ofNat (SS.wr (SS.wrS s (aa i) 64 (fB (wrapA IntKind.u8 (Int.ofNat i + (1 : Int))))))) (SS.off (SS.wrS s (aa i) 64 (fB (wrapA IntKind.u8 (Int.ofNat i + (1 : Int)))))) (SS.armed (SS.wrS s (aa i) 64 (fB (wrapA IntKind.u8 (Int.ofNat i + (1 : Int)))))) (Int.ofNat (SS.left (SS.wrS s (aa i) 64 (fB (wrapA IntKind.u8 (Int.ofNat i + (1 : Int))))))) }])) (T.n (some (AObj.rows 5 1 64 (fF (wrapA IntKind.u8 (Int.ofNat i + (1 : Int)))))) T.e T.e) T.e, next := 2, log := [0, 1] })
  Orc.z)) ∧ ((!!false == decide (SS.wrE s (aa i) 64 = (0 : Int))) = false → (!!false == decide (SS.wrE s (aa i) 64 = (0 : Int))) = false ∧ (!!false == decide (SS.wrE s (aa i) 64 =
  (0 : Int))) = false ∧ (!!false == decide (SS.wrE s (aa i) 64 = (0 : Int))) = false ∧ (!false == decide (SS.wrE s (aa i) 64 = (0 : Int))) = true ∧ K (Res.st XO.ret (T.n (some (AV.i
  IntKind.i64 k)) (T.n none (T.n none (T.n (some (AV.p 0 0)) (T.n none (T.n none (T.n (some (AV.tup [])) T.e T.e) T.e) (T.n (some (AV.i IntKind.i64 (aa i))) (T.n (some (AV.b (decide
  (SS.wrE s (aa i) 64 = (13 : Int))))) T.e T.e) T.e)) (T.n none (T.n none (T.n (some (AV.p 0 0)) T.e T.e) T.e) (T.n (some (AV.i IntKind.i64 (aa i))) T.e (T.n (some (AV.b !false ==
  decide (SS.wrE s (aa i) 64 = (0 : Int)))) T.e T.e)))) (T.n (some (AV.i IntKind.i64 (aa i))) (T.n none (T.n none (T.n (some (AV.tup [])) T.e T.e) T.e) (T.n (some (AV.i IntKind.i64
  (Int.ofNat i + (1 : Int)))) (T.n (some (AV.b false)) T.e T.e) (T.n (some (AV.b false)) T.e T.e))) (T.n none (T.n (some (AV.i IntKind.i64 (Int.ofNat i))) (T.n (some (AV.p 0 0)) T.e
  T.e) T.e) (T.n (some (AV.tup [])) T.e (T.n (some (AV.tup [])) T.e T.e))))) (T.n none (T.n (some (AV.i IntKind.i64 (Int.ofNat tk))) (T.n none (T.n none (T.n (some (AV.b false)) T.e
  T.e) T.e) (T.n (some (AV.i IntKind.i64 (aa i))) (T.n (some (AV.b (decide (SS.wrE s (aa i) 64 = (13 : Int))))) T.e T.e) T.e)) (T.n none (T.n (some (AV.sv 1 L fun i x => CV.i
  IntKind.i64 (aa i))) (T.n (some (AV.b false)) T.e T.e) T.e) (T.n (some (AV.b (decide ((0 : Int) ≤ aa i)))) T.e (T.n (some (AV.tup [])) T.e T.e)))) (T.n (some (AV.b false)) (T.n
  none (T.n none (T.n (some (AV.tup [])) T.e T.e) T.e) (T.n (some (AV.lr 1 1 0 64 false)) T.e (T.n (some (AV.b (decide (SS.wrE s (aa i) 64 = (0 : Int))))) T.e T.e))) (T.n none (T.n
  (some (AV.i IntKind.i64 (Int.ofNat i))) (T.n (some (AV.b (SS.off (SS.wrS s (aa i) 64 (fB (wrapA IntKind.u8 (Int.ofNat i + (1 : Int)))))))) T.e T.e) T.e) (T.n (some (AV.b false))
  T.e (T.n (some (AV.tup [])) T.e T.e)))))) (T.n (some (AV.i IntKind.i64 keep)) (T.n none (T.n none (T.n none (T.n none (T.n (some (AV.tup [])) T.e T.e) T.e) (T.n (some (AV.p 0 0))
  (T.n (some (AV.b (decide (SS.wrE s (aa i) 64 = (13 : Int))))) T.e T.e) T.e)) (T.n none (T.n none (T.n (some (AV.b (SS.off (SS.wrS s (aa i) 64 (fB (wrapA IntKind.u8 (Int.ofNat i +
  (1 : Int)))))))) T.e T.e) T.e) (T.n (some (AV.b (decide ((0 : Int) ≤ aa i)))) T.e (T.n (some (AV.tup [])) T.e T.e)))) (T.n (some (AV.i IntKind.i64 (SS.wrE s (aa i) 64))) (T.n none
  (T.n none (T.n (some (AV.tup [])) T.e T.e) T.e) (T.n (some (AV.i IntKind.u8 (wrapA IntKind.u8 (Int.ofNat i + (1 : Int))))) T.e (T.n (some (AV.i IntKind.i64 (SS.wrE s (aa i) 64)))
  T.e T.e))) (T.n none (T.n (some (AV.b (decide (Int.ofNat i < Int.ofNat L)))) (T.n (some (AV.b (SS.off (SS.wrS s (aa i) 64 (fB (wrapA IntKind.u8 (Int.ofNat i + (1 : Int)))))))) T.e
  T.e) T.e) (T.n (some (AV.b false)) T.e (T.n (some (AV.tup [])) T.e T.e))))) (T.n (some (AV.b false)) (T.n (some (AV.i IntKind.i64 (Int.ofNat i))) (T.n none (T.n none (T.n (some
  (AV.b false)) T.e T.e) T.e) (T.n (some (AV.i IntKind.i64 (Int.ofNat i))) (T.n (some (AV.b !SS.off (SS.wrS s (aa i) 64 (fB (wrapA IntKind.u8 (Int.ofNat i + (1 : Int))))) == decide
  (SS.wrE s (aa i) 64 = (13 : Int)))) T.e T.e) T.e)) (T.n none (T.n (some (AV.i IntKind.i64 (Int.ofNat L))) (T.n (some (AV.b false)) T.e T.e) T.e) (T.n (some (AV.tup [])) T.e (T.n
  (some (AV.tup [])) T.e T.e)))) (T.n (some (AV.b false)) (T.n none (T.n none (T.n (some (AV.b false)) T.e T.e) T.e) (T.n (some (AV.i IntKind.i64 (SS.wrE s (aa i) 64))) T.e (T.n
  (some (AV.b !false == decide (SS.wrE s (aa i) 64 = (0 : Int)))) T.e T.e))) (T.n none (T.n (some (AV.pv 1 fun c => CV.i IntKind.i64 (aa i))) (T.n (some (AV.i IntKind.i64 (SS.wrE s
  (aa i) 64))) T.e T.e) T.e) (T.n (some (AV.b false)) T.e (T.n (some (AV.b true)) T.e T.e))))))) { tree := T.n (some (AObj.segs 73 33799 [{ st := 0, sz := 1, n := 1, f := oneF (CV.i IntKind.i64 (Int.ofNat (SS.n (SS.wrS s (aa i) 64 (fB (wrapA IntKind.u8 (Int.ofNat i + (1 : Int)))))))) }, { st := 1, sz := 65, n := 512, f := durF (SS.dur (SS.wrS s (aa i) 64 (fB (wrapA IntKind.u8 (Int.ofNat i + (1 : Int)))))) (SS.torn (SS.wrS s (aa i) 64 (fB (wrapA IntKind.u8 (Int.ofNat i + (1 : Int)))))) }, { st := 33281, sz := 1, n := 1, f := oneF (CV.opv (pB (SS.P (SS.wrS s (aa i) 64 (fB (wrapA IntKind.u8 (Int.ofNat i + (1 : Int))))))) 66 (pW (SS.P (SS.wrS s (aa i) 64 (fB (wrapA IntKind.u8 (Int.ofNat i + (1 : Int)))))))) }, { st := 33282, sz := 1, n := 512, f := latF (lB (SS.P (SS.wrS s (aa i) 64 (fB (wrapA IntKind.u8 (Int.ofNat i + (1 : Int))))))) (lW (SS.P (SS.wrS s (aa i) 64 (fB (wrapA IntKind.u8 (Int.ofNat i + (1 : Int))))))) }, { st := 33794, sz := 5, n := 1, f := tailF (Int.ofNat (List.length (SS.P (SS.wrS s (aa i) 64 (fB (wrapA IntKind.u8 (Int.ofNat i + (1 : Int)))))))) (Int.ofNat (SS.wr (SS.wrS s (aa i) 64 (fB (wrapA IntKind.u8 (Int.ofNat i + (1 : Int))))))) (SS.off (SS.wrS s (aa i) 64 (fB (wrapA IntKind.u8 (Int.ofNat i + (1 : Int)))))) (SS.armed (SS.wrS s (aa i) 64 (fB (wrapA IntKind.u8 (Int.ofNat i + (1 : Int)))))) (Int.ofNat (SS.left (SS.wrS s (aa i) 64 (fB (wrapA IntKind.u8 (Int.ofNat i + (1 : Int))))))) }])) (T.n (some (AObj.rows 5 1 64 (fF (wrapA IntKind.u8 (Int.ofNat i + (1 : Int)))))) T.e T.e) T.e, next := 2, log := [0, 1] })
  Orc.z))) ∧ (SS.off (SS.wrS s (aa i) 64 (fB (wrapA IntKind.u8 (Int.ofNat i + (1 : Int))))) = false → SS.off (SS.wrS s (aa i) 64 (fB (wrapA IntKind.u8 (Int.ofNat i + (1 : Int))))) =
  false ∧ SS.off (SS.wrS s (aa i) 64 (fB (wrapA IntKind.u8 (Int.ofNat i + (1 : Int))))) = false ∧ True ∧ (!SS.off (SS.wrS s (aa i) 64 (fB (wrapA IntKind.u8 (Int.ofNat i + (1 :
  Int))))) == false) = false ∧ True ∧ ((!!false == decide (SS.wrE s (aa i) 64 = (0 : Int))) = true → (!!false == decide (SS.wrE s (aa i) 64 = (0 : Int))) = true ∧ True ∧ (!!false ==
  decide (SS.wrE s (aa i) 64 = (0 : Int))) = true ∧ (!!false == decide (SS.wrE s (aa i) 64 = (0 : Int))) = true ∧ (!false == decide (SS.wrE s (aa i) 64 = (0 : Int))) = false ∧
  ((!decide (SS.wrE s (aa i) 64 = (2 : Int))) = true → K (Res.st XO.ret (T.n (some (AV.i IntKind.i64 k)) (T.n none (T.n none (T.n (some (AV.p 0 0)) (T.n none (T.n none (T.n (some
  (AV.tup [])) T.e T.e) T.e) (T.n (some (AV.i IntKind.i64 (aa i))) (T.n (some (AV.tup [])) T.e T.e) T.e)) (T.n none (T.n none (T.n (some (AV.p 0 0)) T.e T.e) T.e) (T.n (some (AV.i
  IntKind.i64 (aa i))) T.e (T.n (some (AV.b !false == decide (SS.wrE s (aa i) 64 = (0 : Int)))) T.e T.e)))) (T.n (some (AV.i IntKind.i64 (aa i))) (T.n none (T.n none (T.n (some
  (AV.tup [])) T.e T.e) T.e) (T.n (some (AV.i IntKind.i64 (Int.ofNat i + (1 : Int)))) (T.n (some (AV.b false)) T.e T.e) (T.n (some (AV.b false)) T.e T.e))) (T.n none (T.n (some
  (AV.i IntKind.i64 (Int.ofNat i))) (T.n (some (AV.p 0 0)) T.e T.e) T.e) (T.n (some (AV.tup [])) T.e (T.n (some (AV.i IntKind.i64 (SS.wrE s (aa i) 64))) T.e T.e))))) (T.n none (T.n
  (some (AV.i IntKind.i64 (Int.ofNat tk))) (T.n none (T.n none (T.n (some (AV.b false)) T.e T.e) T.e) (T.n (some (AV.i IntKind.i64 (aa i))) (T.n (some (AV.b false)) T.e T.e) T.e))
  (T.n none (T.n (some (AV.sv 1 L fun i x => CV.i IntKind.i64 (aa i))) (T.n (some (AV.b false)) T.e T.e) T.e) (T.n (some (AV.b (decide ((0 : Int) ≤ aa i)))) T.e (T.n (some (AV.b
  true)) T.e T.e)))) (T.n (some (AV.b false)) (T.n none (T.n none (T.n (some (AV.tup [])) T.e T.e) T.e) (T.n (some (AV.lr 1 1 0 64 false)) T.e (T.n (some (AV.b (decide (SS.wrE s (aa
  i) 64 = (0 : Int))))) T.e T.e))) (T.n none (T.n (some (AV.i IntKind.i64 (Int.ofNat i))) (T.n (some (AV.b (SS.off (SS.wrS s (aa i) 64 (fB (wrapA IntKind.u8 (Int.ofNat i + (1 :
  Int)))))))) T.e T.e) T.e) (T.n (some (AV.b false)) T.e (T.n (some (AV.b !decide (SS.wrE s (aa i) 64 = (2 : Int)))) T.e T.e)))))) (T.n (some (AV.i IntKind.i64 keep)) (T.n none (T.n
  none (T.n none (T.n none (T.n (some (AV.tup [])) T.e T.e) T.e) (T.n (some (AV.p 0 0)) (T.n (some (AV.b false)) T.e T.e) T.e)) (T.n none (T.n none (T.n (some (AV.b (SS.off (SS.wrS
  s (aa i) 64 (fB (wrapA IntKind.u8 (Int.ofNat i + (1 : Int)))))))) T.e T.e) T.e) (T.n (some (AV.b (decide ((0 : Int) ≤ aa i)))) T.e (T.n (some (AV.b false)) T.e T.e)))) (T.n (some
  (AV.i IntKind.i64 (SS.wrE s (aa i) 64))) (T.n none (T.n none (T.n (some (AV.tup [])) T.e T.e) T.e) (T.n (some (AV.i IntKind.u8 (wrapA IntKind.u8 (Int.ofNat i + (1 : Int))))) T.e
  (T.n (some (AV.i IntKind.i64 (SS.wrE s (aa i) 64))) T.e T.e))) (T.n none (T.n (some (AV.b (decide (Int.ofNat i < Int.ofNat L)))) (T.n (some (AV.b (SS.off (SS.wrS s (aa i) 64 (fB
  (wrapA IntKind.u8 (Int.ofNat i + (1 : Int)))))))) T.e T.e) T.e) (T.n (some (AV.b false)) T.e (T.n (some (AV.b !decide (SS.wrE s (aa i) 64 = (2 : Int)))) T.e T.e))))) (T.n (some
  (AV.b false)) (T.n (some (AV.i IntKind.i64 (Int.ofNat i))) (T.n none (T.n none (T.n (some (AV.b false)) T.e T.e) T.e) (T.n (some (AV.i IntKind.i64 (Int.ofNat i))) (T.n (some (AV.b
  !SS.off (SS.wrS s (aa i) 64 (fB (wrapA IntKind.u8 (Int.ofNat i + (1 : Int))))) == false)) T.e T.e) T.e)) (T.n none (T.n (some (AV.i IntKind.i64 (Int.ofNat L))) (T.n (some (AV.b
  false)) T.e T.e) T.e) (T.n (some (AV.tup [])) T.e (T.n (some (AV.b true)) T.e T.e)))) (T.n (some (AV.b false)) (T.n none (T.n none (T.n (some (AV.b false)) T.e T.e) T.e) (T.n
  (some (AV.i IntKind.i64 (SS.wrE s (aa i) 64))) T.e (T.n (some (AV.b !false == decide (SS.wrE s (aa i) 64 = (0 : Int)))) T.e T.e))) (T.n none (T.n (some (AV.pv 1 fun c => CV.i
  IntKind.i64 (aa i))) (T.n (some (AV.tup [])) T.e T.e) T.e) (T.n (some (AV.b false)) T.e (T.n (some (AV.b !decide (SS.wrE s (aa i) 64 = (2 : Int)))) T.e T.e))))))) { tree := T.n (some (AObj.segs 73 33799 [{ st := 0, sz := 1, n := 1, f := oneF (CV.i IntKind.i64 (Int.ofNat (SS.n (SS.wrS s (aa i) 64 (fB (wrapA IntKind.u8 (Int.ofNat i + (1 : Int)))))))) }, { st := 1, sz := 65, n := 512, f := durF (SS.dur (SS.wrS s (aa i) 64 (fB (wrapA IntKind.u8 (Int.ofNat i + (1 : Int)))))) (SS.torn (SS.wrS s (aa i) 64 (fB (wrapA IntKind.u8 (Int.ofNat i + (1 : Int)))))) }, { st := 33281, sz := 1, n := 1, f := oneF (CV.opv (pB (SS.P (SS.wrS s (aa i) 64 (fB (wrapA IntKind.u8 (Int.ofNat i + (1 : Int))))))) 66 (pW (SS.P (SS.wrS s (aa i) 64 (fB (wrapA IntKind.u8 (Int.ofNat i + (1 : Int)))))))) }, { st := 33282, sz := 1, n := 512, f := latF (lB (SS.P (SS.wrS s (aa i) 64 (fB (wrapA IntKind.u8 (Int.ofNat i + (1 : Int))))))) (lW (SS.P (SS.wrS s (aa i) 64 (fB (wrapA IntKind.u8 (Int.ofNat i + (1 : Int))))))) }, { st := 33794, sz := 5, n := 1, f := tailF (Int.ofNat (List.length (SS.P (SS.wrS s (aa i) 64 (fB (wrapA IntKind.u8 (Int.ofNat i + (1 : Int)))))))) (Int.ofNat (SS.wr (SS.wrS s (aa i) 64 (fB (wrapA IntKind.u8 (Int.ofNat i + (1 : Int))))))) (SS.off (SS.wrS s (aa i) 64 (fB (wrapA IntKind.u8 (Int.ofNat i + (1 : Int)))))) (SS.armed (SS.wrS s (aa i) 64 (fB (wrapA IntKind.u8 (Int.ofNat i + (1 : Int)))))) (Int.ofNat (SS.left (SS.wrS s (aa i) 64 (fB (wrapA IntKind.u8 (Int.ofNat i + (1 : Int))))))) }])) (T.n (some (AObj.rows 5 1 64 (fF (wrapA IntKind.u8 (Int.ofNat i + (1 : Int)))))) T.e T.e) T.e, next := 2, log := [0, 1] })
  Orc.z) ∧ ((!decide (SS.wrE s (aa i) 64 = (2 : Int))) = false → ((-9223372036854775808 : Int) ≤ Int.ofNat i + (1 : Int) ∧ Int.ofNat i + (1 : Int) ≤ (9223372036854775807 : Int)) ∧ K
  (Res.st XO.nrm (T.n (some (AV.i IntKind.i64 k)) (T.n none (T.n none (T.n (some (AV.p 0 0)) (T.n none (T.n none (T.n (some (AV.tup [])) (T.n (some (AV.b false)) T.e T.e) T.e) T.e)
  (T.n (some (AV.i IntKind.i64 (aa i))) (T.n (some (AV.tup [])) T.e T.e) T.e)) (T.n none (T.n none (T.n (some (AV.p 0 0)) T.e T.e) T.e) (T.n (some (AV.i IntKind.i64 (aa i))) T.e
  (T.n (some (AV.b !false == decide (SS.wrE s (aa i) 64 = (0 : Int)))) T.e T.e)))) (T.n (some (AV.i IntKind.i64 (aa i))) (T.n none (T.n none (T.n (some (AV.tup [])) T.e T.e) T.e)
  (T.n (some (AV.i IntKind.i64 (Int.ofNat i + (1 : Int)))) (T.n (some (AV.b false)) T.e T.e) (T.n (some (AV.b false)) T.e T.e))) (T.n none (T.n (some (AV.i IntKind.i64 (Int.ofNat i
  + (1 : Int)))) (T.n (some (AV.p 0 0)) T.e T.e) T.e) (T.n (some (AV.tup [])) T.e (T.n (some (AV.i IntKind.i64 (SS.wrE s (aa i) 64))) T.e T.e))))) (T.n none (T.n (some (AV.i
  IntKind.i64 (Int.ofNat tk))) (T.n none (T.n none (T.n (some (AV.b false)) T.e T.e) T.e) (T.n (some (AV.i IntKind.i64 (aa i))) (T.n (some (AV.b false)) T.e T.e) T.e)) (T.n none
  (T.n (some (AV.sv 1 L fun i x => CV.i IntKind.i64 (aa i))) (T.n (some (AV.b false)) T.e T.e) T.e) (T.n (some (AV.b (decide ((0 : Int) ≤ aa i)))) T.e (T.n (some (AV.b true)) T.e
  T.e)))) (T.n (some (AV.b false)) (T.n none (T.n none (T.n (some (AV.tup [])) T.e T.e) T.e) (T.n (some (AV.lr 1 1 0 64 false)) T.e (T.n (some (AV.b (decide (SS.wrE s (aa i) 64 = (0
  : Int))))) T.e T.e))) (T.n none (T.n (some (AV.i IntKind.i64 (Int.ofNat i))) (T.n (some (AV.b (SS.off (SS.wrS s (aa i) 64 (fB (wrapA IntKind.u8 (Int.ofNat i + (1 : Int)))))))) T.e
  T.e) T.e) (T.n (some (AV.b false)) T.e (T.n (some (AV.b !decide (SS.wrE s (aa i) 64 = (2 : Int)))) T.e T.e)))))) (T.n (some (AV.i IntKind.i64 keep)) (T.n none (T.n none (T.n none
  (T.n none (T.n (some (AV.tup [])) T.e T.e) T.e) (T.n (some (AV.p 0 0)) (T.n (some (AV.b false)) T.e T.e) T.e)) (T.n none (T.n none (T.n (some (AV.b (SS.off (SS.wrS s (aa i) 64 (fB
  (wrapA IntKind.u8 (Int.ofNat i + (1 : Int)))))))) T.e T.e) T.e) (T.n (some (AV.b (decide ((0 : Int) ≤ aa i)))) T.e (T.n (some (AV.b false)) T.e T.e)))) (T.n (some (AV.i
  IntKind.i64 (SS.wrE s (aa i) 64))) (T.n none (T.n none (T.n (some (AV.tup [])) T.e T.e) T.e) (T.n (some (AV.i IntKind.u8 (wrapA IntKind.u8 (Int.ofNat i + (1 : Int))))) T.e (T.n
  (some (AV.i IntKind.i64 (SS.wrE s (aa i) 64))) T.e T.e))) (T.n none (T.n (some (AV.b (decide (Int.ofNat i < Int.ofNat L)))) (T.n (some (AV.b (SS.off (SS.wrS s (aa i) 64 (fB (wrapA
  IntKind.u8 (Int.ofNat i + (1 : Int)))))))) T.e T.e) T.e) (T.n (some (AV.b false)) T.e (T.n (some (AV.b !decide (SS.wrE s (aa i) 64 = (2 : Int)))) T.e T.e))))) (T.n none (T.n (some
  (AV.i IntKind.i64 (Int.ofNat i))) (T.n none (T.n none (T.n (some (AV.b false)) (T.n (some (AV.i IntKind.i64 (Int.ofNat i + (1 : Int)))) T.e T.e) T.e) T.e) (T.n (some (AV.i
  IntKind.i64 (Int.ofNat i))) (T.n (some (AV.b !SS.off (SS.wrS s (aa i) 64 (fB (wrapA IntKind.u8 (Int.ofNat i + (1 : Int))))) == false)) T.e T.e) T.e)) (T.n none (T.n (some (AV.i
  IntKind.i64 (Int.ofNat L))) (T.n (some (AV.b false)) T.e T.e) T.e) (T.n (some (AV.tup [])) T.e (T.n (some (AV.b true)) T.e T.e)))) (T.n (some (AV.b false)) (T.n none (T.n none
  (T.n (some (AV.b false)) T.e T.e) T.e) (T.n (some (AV.i IntKind.i64 (SS.wrE s (aa i) 64))) T.e (T.n (some (AV.b !false == decide (SS.wrE s (aa i) 64 = (0 : Int)))) T.e T.e))) (T.n
  none (T.n (some (AV.pv 1 fun c => CV.i IntKind.i64 (aa i))) (T.n (some (AV.tup [])) T.e T.e) T.e) (T.n (some (AV.b false)) T.e (T.n (some (AV.b !decide (SS.wrE s (aa i) 64 = (2 :
  Int)))) T.e T.e))))))) { tree := T.n (some (AObj.segs 73 33799 [{ st := 0, sz := 1, n := 1, f := oneF (CV.i IntKind.i64 (Int.ofNat (SS.n (SS.wrS s (aa i) 64 (fB (wrapA IntKind.u8 (Int.ofNat i + (1 : Int)))))))) }, { st := 1, sz := 65, n := 512, f := durF (SS.dur (SS.wrS s (aa i) 64 (fB (wrapA IntKind.u8 (Int.ofNat i + (1 : Int)))))) (SS.torn (SS.wrS s (aa i) 64 (fB (wrapA IntKind.u8 (Int.ofNat i + (1 : Int)))))) }, { st := 33281, sz := 1, n := 1, f := oneF (CV.opv (pB (SS.P (SS.wrS s (aa i) 64 (fB (wrapA IntKind.u8 (Int.ofNat i + (1 : Int))))))) 66 (pW (SS.P (SS.wrS s (aa i) 64 (fB (wrapA IntKind.u8 (Int.ofNat i + (1 : Int)))))))) }, { st := 33282, sz := 1, n := 512, f := latF (lB (SS.P (SS.wrS s (aa i) 64 (fB (wrapA IntKind.u8 (Int.ofNat i + (1 : Int))))))) (lW (SS.P (SS.wrS s (aa i) 64 (fB (wrapA IntKind.u8 (Int.ofNat i + (1 : Int))))))) }, { st := 33794, sz := 5, n := 1, f := tailF (Int.ofNat (List.length (SS.P (SS.wrS s (aa i) 64 (fB (wrapA IntKind.u8 (Int.ofNat i + (1 : Int)))))))) (Int.ofNat (SS.wr (SS.wrS s (aa i) 64 (fB (wrapA IntKind.u8 (Int.ofNat i + (1 : Int))))))) (SS.off (SS.wrS s (aa i) 64 (fB (wrapA IntKind.u8 (Int.ofNat i + (1 : Int)))))) (SS.armed (SS.wrS s (aa i) 64 (fB (wrapA IntKind.u8 (Int.ofNat i + (1 : Int)))))) (Int.ofNat (SS.left (SS.wrS s (aa i) 64 (fB (wrapA IntKind.u8 (Int.ofNat i + (1 : Int))))))) }])) (T.n (some (AObj.rows 5 1 64 (fF (wrapA IntKind.u8 (Int.ofNat i + (1 : Int)))))) T.e T.e) T.e, next := 2, log := [0, 1] })
  Orc.z)) ∧ ((!!false == decide (SS.wrE s (aa i) 64 = (0 : Int))) = false → (!!false == decide (SS.wrE s (aa i) 64 = (0 : Int))) = false ∧ (!!false == decide (SS.wrE s (aa i) 64 =
  (0 : Int))) = false ∧ (!!false == decide (SS.wrE s (aa i) 64 = (0 : Int))) = false ∧ (!false == decide (SS.wrE s (aa i) 64 = (0 : Int))) = true ∧ K (Res.st XO.ret (T.n (some (AV.i
  IntKind.i64 k)) (T.n none (T.n none (T.n (some (AV.p 0 0)) (T.n none (T.n none (T.n (some (AV.tup [])) T.e T.e) T.e) (T.n (some (AV.i IntKind.i64 (aa i))) (T.n (some (AV.tup []))
  T.e T.e) T.e)) (T.n none (T.n none (T.n (some (AV.p 0 0)) T.e T.e) T.e) (T.n (some (AV.i IntKind.i64 (aa i))) T.e (T.n (some (AV.b !false == decide (SS.wrE s (aa i) 64 = (0 :
  Int)))) T.e T.e)))) (T.n (some (AV.i IntKind.i64 (aa i))) (T.n none (T.n none (T.n (some (AV.tup [])) T.e T.e) T.e) (T.n (some (AV.i IntKind.i64 (Int.ofNat i + (1 : Int)))) (T.n
  (some (AV.b false)) T.e T.e) (T.n (some (AV.b false)) T.e T.e))) (T.n none (T.n (some (AV.i IntKind.i64 (Int.ofNat i))) (T.n (some (AV.p 0 0)) T.e T.e) T.e) (T.n (some (AV.tup
  [])) T.e (T.n (some (AV.tup [])) T.e T.e))))) (T.n none (T.n (some (AV.i IntKind.i64 (Int.ofNat tk))) (T.n none (T.n none (T.n (some (AV.b false)) T.e T.e) T.e) (T.n (some (AV.i
  IntKind.i64 (aa i))) (T.n (some (AV.b false)) T.e T.e) T.e)) (T.n none (T.n (some (AV.sv 1 L fun i x => CV.i IntKind.i64 (aa i))) (T.n (some (AV.b false)) T.e T.e) T.e) (T.n (some
  (AV.b (decide ((0 : Int) ≤ aa i)))) T.e (T.n (some (AV.tup [])) T.e T.e)))) (T.n (some (AV.b false)) (T.n none (T.n none (T.n (some (AV.tup [])) T.e T.e) T.e) (T.n (some (AV.lr 1
  1 0 64 false)) T.e (T.n (some (AV.b (decide (SS.wrE s (aa i) 64 = (0 : Int))))) T.e T.e))) (T.n none (T.n (some (AV.i IntKind.i64 (Int.ofNat i))) (T.n (some (AV.b (SS.off (SS.wrS
  s (aa i) 64 (fB (wrapA IntKind.u8 (Int.ofNat i + (1 : Int)))))))) T.e T.e) T.e) (T.n (some (AV.b false)) T.e (T.n (some (AV.tup [])) T.e T.e)))))) (T.n (some (AV.i IntKind.i64
  keep)) (T.n none (T.n none (T.n none (T.n none (T.n (some (AV.tup [])) T.e T.e) T.e) (T.n (some (AV.p 0 0)) (T.n (some (AV.b false)) T.e T.e) T.e)) (T.n none (T.n none (T.n (some
  (AV.b (SS.off (SS.wrS s (aa i) 64 (fB (wrapA IntKind.u8 (Int.ofNat i + (1 : Int)))))))) T.e T.e) T.e) (T.n (some (AV.b (decide ((0 : Int) ≤ aa i)))) T.e (T.n (some (AV.tup []))
  T.e T.e)))) (T.n (some (AV.i IntKind.i64 (SS.wrE s (aa i) 64))) (T.n none (T.n none (T.n (some (AV.tup [])) T.e T.e) T.e) (T.n (some (AV.i IntKind.u8 (wrapA IntKind.u8 (Int.ofNat
  i + (1 : Int))))) T.e (T.n (some (AV.i IntKind.i64 (SS.wrE s (aa i) 64))) T.e T.e))) (T.n none (T.n (some (AV.b (decide (Int.ofNat i < Int.ofNat L)))) (T.n (some (AV.b (SS.off
  (SS.wrS s (aa i) 64 (fB (wrapA IntKind.u8 (Int.ofNat i + (1 : Int)))))))) T.e T.e) T.e) (T.n (some (AV.b false)) T.e (T.n (some (AV.tup [])) T.e T.e))))) (T.n (some (AV.b false))
  (T.n (some (AV.i IntKind.i64 (Int.ofNat i))) (T.n none (T.n none (T.n (some (AV.b false)) T.e T.e) T.e) (T.n (some (AV.i IntKind.i64 (Int.ofNat i))) (T.n (some (AV.b !SS.off
  (SS.wrS s (aa i) 64 (fB (wrapA IntKind.u8 (Int.ofNat i + (1 : Int))))) == false)) T.e T.e) T.e)) (T.n none (T.n (some (AV.i IntKind.i64 (Int.ofNat L))) (T.n (some (AV.b false))
  T.e T.e) T.e) (T.n (some (AV.tup [])) T.e (T.n (some (AV.tup [])) T.e T.e)))) (T.n (some (AV.b false)) (T.n none (T.n none (T.n (some (AV.b false)) T.e T.e) T.e) (T.n (some (AV.i
  IntKind.i64 (SS.wrE s (aa i) 64))) T.e (T.n (some (AV.b !false == decide (SS.wrE s (aa i) 64 = (0 : Int)))) T.e T.e))) (T.n none (T.n (some (AV.pv 1 fun c => CV.i IntKind.i64 (aa
  i))) (T.n (some (AV.tup [])) T.e T.e) T.e) (T.n (some (AV.b false)) T.e (T.n (some (AV.b true)) T.e T.e))))))) { tree := T.n (some (AObj.segs 73 33799 [{ st := 0, sz := 1, n := 1, f := oneF (CV.i IntKind.i64 (Int.ofNat (SS.n (SS.wrS s (aa i) 64 (fB (wrapA IntKind.u8 (Int.ofNat i + (1 : Int)))))))) }, { st := 1, sz := 65, n := 512, f := durF (SS.dur (SS.wrS s (aa i) 64 (fB (wrapA IntKind.u8 (Int.ofNat i + (1 : Int)))))) (SS.torn (SS.wrS s (aa i) 64 (fB (wrapA IntKind.u8 (Int.ofNat i + (1 : Int)))))) }, { st := 33281, sz := 1, n := 1, f := oneF (CV.opv (pB (SS.P (SS.wrS s (aa i) 64 (fB (wrapA IntKind.u8 (Int.ofNat i + (1 : Int))))))) 66 (pW (SS.P (SS.wrS s (aa i) 64 (fB (wrapA IntKind.u8 (Int.ofNat i + (1 : Int)))))))) }, { st := 33282, sz := 1, n := 512, f := latF (lB (SS.P (SS.wrS s (aa i) 64 (fB (wrapA IntKind.u8 (Int.ofNat i + (1 : Int))))))) (lW (SS.P (SS.wrS s (aa i) 64 (fB (wrapA IntKind.u8 (Int.ofNat i + (1 : Int))))))) }, { st := 33794, sz := 5, n := 1, f := tailF (Int.ofNat (List.length (SS.P (SS.wrS s (aa i) 64 (fB (wrapA IntKind.u8 (Int.ofNat i + (1 : Int)))))))) (Int.ofNat (SS.wr (SS.wrS s (aa i) 64 (fB (wrapA IntKind.u8 (Int.ofNat i + (1 : Int))))))) (SS.off (SS.wrS s (aa i) 64 (fB (wrapA IntKind.u8 (Int.ofNat i + (1 : Int)))))) (SS.armed (SS.wrS s (aa i) 64 (fB (wrapA IntKind.u8 (Int.ofNat i + (1 : Int)))))) (Int.ofNat (SS.left (SS.wrS s (aa i) 64 (fB (wrapA IntKind.u8 (Int.ofNat i + (1 : Int))))))) }])) (T.n (some (AObj.rows 5 1 64 (fF (wrapA IntKind.u8 (Int.ofNat i + (1 : Int)))))) T.e T.e) T.e, next := 2, log := [0, 1] })
  Orc.z)))) ∧ (decide (Int.ofNat i < Int.ofNat L) = false → K (Res.st (XO.exit 0) (T.n (some (AV.i IntKind.i64 k)) (T.n none (T.n none (T.n (some (AV.p 0 0)) T.e T.e) (T.n none T.e
  (T.n none (T.n (some (AV.i IntKind.i64 (Int.ofNat i))) T.e T.e) T.e))) (T.n none (T.n (some (AV.i IntKind.i64 (Int.ofNat tk))) T.e (T.n none (T.n (some (AV.sv 1 L fun i x => CV.i
  IntKind.i64 (aa i))) T.e T.e) T.e)) T.e)) (T.n (some (AV.i IntKind.i64 keep)) (T.n none T.e (T.n none T.e (T.n none (T.n (some (AV.b (decide (Int.ofNat i < Int.ofNat L)))) T.e
  T.e) T.e))) (T.n none (T.n none T.e (T.n none (T.n (some (AV.i IntKind.i64 (Int.ofNat L))) T.e T.e) T.e)) T.e))) { tree := T.n (some (AObj.segs 73 33799 [{ st := 0, sz := 1, n := 1, f := oneF (CV.i IntKind.i64 (Int.ofNat (SS.n s))) }, { st := 1, sz := 65, n := 512, f := durF (SS.dur s) (SS.torn s) }, { st := 33281, sz := 1, n := 1, f := oneF (CV.opv (pB (SS.P s)) 66 (pW (SS.P s))) }, { st := 33282, sz := 1, n := 512, f := latF (lB (SS.P s)) (lW (SS.P s)) }, { st := 33794, sz := 5, n := 1, f := tailF (Int.ofNat (List.length (SS.P s))) (Int.ofNat (SS.wr s)) (SS.off s) (SS.armed s) (Int.ofNat (SS.left s)) }])) T.e T.e, next := 1, log := [] })
  Orc.z)) := by kernel_rfl

/-- A store of four sectors that was armed with k and has taken tk writes. -/
structure ArmI (k : Int) (tk : Nat) (s : SS) : Prop where
  n : s.n = 4
  off : s.off = false
  P : s.P.length = tk
  wr : s.wr = tk
  armed : s.armed = decide (0 ≤ k)
  left : s.left = (k - tk).toNat
  le : 0 ≤ k → tk ≤ k
  at_ : ∀ w ∈ s.P, w.1 < 4
theorem ArmI.ok {k : Int} {tk : Nat} {s : SS} (h : ArmI k tk s) (hk : k < 9223372036854775808) (ht : tk < 1000) : s.Ok := by
  obtain ⟨h1, h2, h3, h4, h5, h6, h7, h8⟩ := h
  exact ⟨by omega, by omega, by omega, by omega, fun w hw => by rw [h1]; exact h8 w hw⟩

theorem ArmI.bad {k : Int} {tk : Nat} {s : SS} (h : ArmI k tk s) {i : Int} (hi : ¬ (0 ≤ i ∧ i < 4)) (bs : Nat → Int) : s.wrE i 64 = 2 ∧ s.wrS i 64 bs = s := by
  have e : decide (0 ≤ i ∧ i < Int.ofNat s.n ∧ 64 = 64) = false := by
    rw [h.n]; simp; simp at hi; exact hi
  constructor
  · unfold SS.wrE; rw [h.off, e]
  · unfold SS.wrS; rw [h.off, e]
theorem ArmI.good {k : Int} {tk : Nat} {s : SS} (h : ArmI k tk s) {i : Int} (hi : 0 ≤ i ∧ i < 4) (hk : ¬ (0 ≤ k ∧ Int.ofNat tk = k)) (bs : Nat → Int) : s.wrE i 64 = 0 ∧ ArmI k (tk + 1) (s.wrS i 64 bs) := by
  have e : decide (0 ≤ i ∧ i < Int.ofNat s.n ∧ 64 = 64) = true := by
    rw [h.n]; simp; exact hi
  have e1 : s.wrE i 64 = (s.wrote i.toNat fun _ => 0).payE := by unfold SS.wrE; rw [h.off, e]
  have e2 : s.wrS i 64 bs = (s.wrote i.toNat bs).pay := by unfold SS.wrS; rw [h.off, e]
  rw [e1, e2]
  obtain ⟨n, dur, torn, P, wr, off, armed, left⟩ := s
  obtain ⟨h1, h2, h3, h4, h5, h6, h7, h8⟩ := h
  simp only at h1 h2 h3 h4 h5 h6 h7 h8
  subst h1 h2 h4 h5 h6
  have hat : ∀ w ∈ (i.toNat, bs) :: P, w.1 < 4 := by
    intro w hw
    rcases List.mem_cons.1 hw with rfl | hw
    · simp only; omega
    · exact h8 w hw
  by_cases hk0 : 0 ≤ k
  · have hd : decide (0 ≤ k) = true := by simpa using hk0
    have hlt : (wr : Int) < k := by
      have := h7 hk0
      have hne : ¬ Int.ofNat wr = k := fun q => hk ⟨hk0, q⟩
      simp at hne; omega
    have hb : Nat.beq (k - wr).toNat 0 = false := by
      rw [Bool.eq_false_iff, ne_eq, Nat.beq_eq]; omega
    rw [hd]
    constructor
    · show (match Nat.beq (k - wr).toNat 0 with | true => (13 : Int) | false => 0) = 0
      rw [hb]
    · show ArmI k (wr + 1) (match Nat.beq (k - wr).toNat 0 with | true => _ | false => _)
      rw [hb]
      exact ⟨rfl, rfl, by simp [SS.wrote]; omega, rfl, hd.symm, by simp [SS.wrote]; omega, fun _ => by omega, hat⟩
  · have hd : decide (0 ≤ k) = false := by simpa using hk0
    rw [hd]
    exact ⟨rfl, rfl, rfl, by simp [SS.wrote, SS.pay]; omega, rfl, hd.symm, by simp [SS.wrote, SS.pay]; omega, fun q => absurd q hk0, hat⟩
theorem ArmI.last {k : Int} {tk : Nat} {s : SS} (h : ArmI k tk s) {i : Int} (hi : 0 ≤ i ∧ i < 4) (hk : 0 ≤ k ∧ Int.ofNat tk = k) (bs : Nat → Int) : s.wrE i 64 = 13 ∧ (s.wrS i 64 bs).off = true ∧ (s.wrS i 64 bs).P.length = tk + 1 ∧ (s.wrS i 64 bs).wr = tk + 1 ∧ (s.wrS i 64 bs).n = 4 ∧ (s.wrS i 64 bs).armed = false ∧
    (s.wrS i 64 bs).left = 0 ∧ ∀ w ∈ (s.wrS i 64 bs).P, w.1 < 4 := by
  have e : decide (0 ≤ i ∧ i < Int.ofNat s.n ∧ 64 = 64) = true := by
    rw [h.n]; simp; exact hi
  have e1 : s.wrE i 64 = (s.wrote i.toNat fun _ => 0).payE := by unfold SS.wrE; rw [h.off, e]
  have e2 : s.wrS i 64 bs = (s.wrote i.toNat bs).pay := by unfold SS.wrS; rw [h.off, e]
  rw [e1, e2]
  obtain ⟨n, dur, torn, P, wr, off, armed, left⟩ := s
  obtain ⟨h1, h2, h3, h4, h5, h6, h7, h8⟩ := h
  simp only at h1 h2 h3 h4 h5 h6 h7 h8
  subst h1 h2 h4 h5 h6
  have hat : ∀ w ∈ (i.toNat, bs) :: P, w.1 < 4 := by
    intro w hw
    rcases List.mem_cons.1 hw with rfl | hw
    · simp only; omega
    · exact h8 w hw
  obtain ⟨k0, k1⟩ := hk
  have hd : decide (0 ≤ k) = true := by simpa using k0
  have hb : (k - wr).toNat = 0 := by simp at k1; omega
  rw [hd, hb]
  exact ⟨rfl, rfl, by simp [SS.wrote, SS.pay]; omega, rfl, rfl, rfl, rfl, hat⟩

theorem bb1 : (true == true) = true := rfl
theorem bb2 : (true == false) = false := rfl
theorem bb3 : (false == true) = false := rfl
theorem bb4 : (false == false) = true := rfl
def armT (k keep : Int) (L i tk : Nat) (aa : Nat → Int) : List (Nat × AV) := [(0, .i .i64 k), (2, .i .i64 keep), (7, .p 0 0), (9, .i .i64 (Int.ofNat tk)), (41, .sv 1 L fun i _ => .i .i64 (aa i)), (42, .i .i64 (Int.ofNat L)), (43, .i .i64 (Int.ofNat i))]

theorem arm_bad (s : SS) (k keep : Int) (L i tk : Nat) (aa : Nat → Int) (h : ArmI k tk s) (hk : k < 9223372036854775808) (ht : tk < 1000) (hL : L < 1000) (hi : i < L) (hb : ¬ (0 ≤ aa i ∧ aa i < 4)) :
    ∃ o, ∀ K, (∀ tm1 H1, StIs 1 [0] [] tm1 H1 (armT k keep L (i + 1) tk aa) [some s.o] → K (.st .nrm tm1 H1) Orc.z) → runK Try.prog 1000000 (.code (loopAt Try.prog 7 0) 141 (mkT (armT k keep L i tk aa)) (mkH [some s.o])) o K := by
  have ok := h.ok hk ht
  obtain ⟨n, dur, torn, P, wr, off, armed, left⟩ := s
  obtain rfl : off = false := h.off
  refine ⟨_, fun K hK => (armL_vc _ k keep L i tk aa ok (by have := h.P; omega) (fun q hq => by have := h.at_ q hq; omega) K).mpr ?_⟩
  generalize hs : (⟨n, dur, torn, P, wr, false, armed, left⟩ : SS) = s at h ok
  have hbd := h.bad hb
  have e1 : s.wrE (aa i) 64 = 2 := (hbd (fun _ => 0)).1
  have e2 : ∀ bs, s.wrS (aa i) 64 bs = s := fun bs => (hbd bs).2
  have c0 : Con Try.prog 24 [.p 0 0, .i .i64 (aa i), .lr 1 1 0 64 false] [some s.o, some (.rows 5 1 64 fun k _ => .i .u8 (fB (wrapA .u8 (Int.ofNat i + 1)) k))] (.i .i64 2) [.set s.o, .keep] := by
    have := writeU_con s (aa i) 64 64 5 (fB (wrapA .u8 (Int.ofNat i + 1))) ok (Nat.le_refl _)
    rwa [e1, e2] at this
  have hoff := h.off
  have co : Con Try.prog 27 [.p 0 0] [some s.o] (.b false) [.keep] := by
    have := off2_con s
    rwa [h.off] at this
  subst hs
  have hlt : decide (Int.ofNat i < Int.ofNat L) = true := by simp; omega
  have b1 : (-9223372036854775808 : Int) ≤ Int.ofNat i + 1 ∧ Int.ofNat i + 1 ≤ 9223372036854775807 := ⟨by simp; omega, by simp; omega⟩
  have b2 : (0 : Int) ≤ Int.ofNat i ∧ Int.ofNat i < (L : Int) := ⟨by simp, by simp; omega⟩
  have d1 : decide ((2 : Int) = 0) = false := by decide
  have d2 : decide ((2 : Int) = 13) = false := by decide
  have d3 : decide ((2 : Int) = 2) = true := by decide
  have b3 : (-9223372036854775808 : Int) ≤ Int.ofNat tk + 1 ∧ Int.ofNat tk + 1 ≤ 9223372036854775807 := ⟨by simp; omega, by simp; omega⟩
  cases a1 : decide (0 ≤ aa i) <;> cases a2 : decide (aa i < 4)
  case true.true => exact absurd ⟨of_decide_eq_true a1, of_decide_eq_true a2⟩ hb
  all_goals
    cases a3 : decide (0 ≤ k) <;> cases a4 : decide (Int.ofNat tk = k) <;>
    simp only [hlt, e1, e2, d1, d2, d3, h.off, a1, a2, a3, a4, Bool.not_true, Bool.not_false, reduceCtorEq, beq_self_eq_true, false_implies, true_implies, and_true, true_and, Bool.true_eq_false, Bool.false_eq_true, bb1, bb2, bb3, bb4, decide_true, decide_false]
  all_goals exact ⟨b2, b1, fill64_con _, c0, co, co, b1, hK _ _ (st_is [0] (by kernel_rfl) rfl rfl rfl ⟨by kernel_rfl, by kernel_rfl, trivial⟩ rfl)⟩

theorem arm_good (s : SS) (k keep : Int) (L i tk : Nat) (aa : Nat → Int) (h : ArmI k tk s) (hk : k < 9223372036854775808) (ht : tk < 1000) (hL : L < 1000) (hi : i < L) (hb : 0 ≤ aa i ∧ aa i < 4) (hnl : ¬ (0 ≤ k ∧ Int.ofNat tk = k)) :
    ∃ o, ∀ K, (∀ tm1 H1, StIs 1 [0] [] tm1 H1 (armT k keep L (i + 1) (tk + 1) aa) [some (s.wrS (aa i) 64 (fB (wrapA .u8 (Int.ofNat i + 1)))).o] → K (.st .nrm tm1 H1) Orc.z) → runK Try.prog 1000000 (.code (loopAt Try.prog 7 0) 141 (mkT (armT k keep L i tk aa)) (mkH [some s.o])) o K := by
  have ok := h.ok hk ht
  obtain ⟨e1, h'⟩ := h.good hb hnl (fB (wrapA .u8 (Int.ofNat i + 1)))
  refine ⟨_, fun K hK => (armL_vc _ k keep L i tk aa ok (by have := h.P; omega) (fun q hq => by have := h.at_ q hq; omega) K).mpr ?_⟩
  have c0 := writeU_con s (aa i) 64 64 5 (fB (wrapA .u8 (Int.ofNat i + 1))) ok (Nat.le_refl _)
  rw [e1] at c0
  have co := off2_con (s.wrS (aa i) 64 (fB (wrapA .u8 (Int.ofNat i + 1))))
  have h'' := h'
  cases hS : s.wrS (aa i) 64 (fB (wrapA .u8 (Int.ofNat i + 1))) with
  | mk n dur torn P wr off armed left =>
  rw [hS] at h'' hK c0 co
  obtain rfl : off = false := h''.off
  have hlt : decide (Int.ofNat i < Int.ofNat L) = true := by simp; omega
  have b1 : (-9223372036854775808 : Int) ≤ Int.ofNat i + 1 ∧ Int.ofNat i + 1 ≤ 9223372036854775807 := ⟨by simp; omega, by simp; omega⟩
  have b2 : (0 : Int) ≤ Int.ofNat i ∧ Int.ofNat i < (L : Int) := ⟨by simp, by simp; omega⟩
  have b3 : (-9223372036854775808 : Int) ≤ Int.ofNat tk + 1 ∧ Int.ofNat tk + 1 ≤ 9223372036854775807 := ⟨by simp; omega, by simp; omega⟩
  have d1 : decide ((0 : Int) = 0) = true := by decide
  have d2 : decide ((0 : Int) = 13) = false := by decide
  have a1 : decide (0 ≤ aa i) = true := decide_eq_true hb.1
  have a2 : decide (aa i < 4) = true := decide_eq_true hb.2
  cases a3 : decide (0 ≤ k) <;> cases a4 : decide (Int.ofNat tk = k)
  case true.true => exact absurd ⟨of_decide_eq_true a3, of_decide_eq_true a4⟩ hnl
  all_goals
    simp only [hlt, e1, hS, d1, d2, a1, a2, a3, a4, Bool.not_true, Bool.not_false, reduceCtorEq, beq_self_eq_true, false_implies, true_implies, and_true, true_and, Bool.true_eq_false, Bool.false_eq_true, bb1, bb2, bb3, bb4, decide_true, decide_false]
  all_goals first | exact ⟨b2, b1, fill64_con _, c0, co, co, b3, b1, hK _ _ (st_is [0] (by kernel_rfl) rfl rfl rfl ⟨by kernel_rfl, by kernel_rfl, trivial⟩ rfl)⟩ | exact ⟨b2, b1, fill64_con _, c0, co, b3, b1, hK _ _ (st_is [0] (by kernel_rfl) rfl rfl rfl ⟨by kernel_rfl, by kernel_rfl, trivial⟩ rfl)⟩ | trace_state

theorem arm_last (s : SS) (k keep : Int) (L i tk : Nat) (aa : Nat → Int) (h : ArmI k tk s) (hk : k < 9223372036854775808) (ht : tk < 1000) (hL : L < 1000) (hi : i < L) (hb : 0 ≤ aa i ∧ aa i < 4) (hnl : 0 ≤ k ∧ Int.ofNat tk = k) :
    ∃ o, ∀ K, (∀ tm1 H1, StIs 1 [0] [] tm1 H1 [(6, .b true)] [none] → K (.st .ret tm1 H1) Orc.z) → runK Try.prog 1000000 (.code (loopAt Try.prog 7 0) 141 (mkT (armT k keep L i tk aa)) (mkH [some s.o])) o K := by
  have ok := h.ok hk ht
  obtain ⟨e1, f1, f2, f3, f4, f5, f6, f7⟩ := h.last hb hnl (fB (wrapA .u8 (Int.ofNat i + 1)))
  refine ⟨_, fun K hK => (armL_vc _ k keep L i tk aa ok (by have := h.P; omega) (fun q hq => by have := h.at_ q hq; omega) K).mpr ?_⟩
  have c0 := writeU_con s (aa i) 64 64 5 (fB (wrapA .u8 (Int.ofNat i + 1))) ok (Nat.le_refl _)
  rw [e1] at c0
  have co := off2_con (s.wrS (aa i) 64 (fB (wrapA .u8 (Int.ofNat i + 1))))
  have cp := pending2_con (s.wrS (aa i) 64 (fB (wrapA .u8 (Int.ofNat i + 1))))
  have cw := writes2_con (s.wrS (aa i) 64 (fB (wrapA .u8 (Int.ofNat i + 1))))
  have cr := revive_con (s.wrS (aa i) 64 (fB (wrapA .u8 (Int.ofNat i + 1)))) keep false (by omega) (fun q hq => by have := f7 q hq; omega)
  have cq := pending2_con ((s.wrS (aa i) 64 (fB (wrapA .u8 (Int.ofNat i + 1)))).revived keep false)
  cases hS : s.wrS (aa i) 64 (fB (wrapA .u8 (Int.ofNat i + 1))) with
  | mk n dur torn P wr off armed left =>
  rw [hS] at c0 co cp cw cr cq f1 f2 f3 f4 f5 f6 f7
  simp only at f1 f2 f3 f4 f5 f6 f7
  subst f1 f4 f5 f6 f3
  have hlt : decide (Int.ofNat i < Int.ofNat L) = true := by simp; omega
  have b1 : (-9223372036854775808 : Int) ≤ Int.ofNat i + 1 ∧ Int.ofNat i + 1 ≤ 9223372036854775807 := ⟨by simp; omega, by simp; omega⟩
  have b2 : (0 : Int) ≤ Int.ofNat i ∧ Int.ofNat i < (L : Int) := ⟨by simp, by simp; omega⟩
  have b3 : (-9223372036854775808 : Int) ≤ Int.ofNat tk + 1 ∧ Int.ofNat tk + 1 ≤ 9223372036854775807 := ⟨by simp; omega, by simp; omega⟩
  have d1 : decide ((13 : Int) = 0) = false := by decide
  have d2 : decide ((13 : Int) = 13) = true := by decide
  have d3 : decide ((0 : Int) = 0) = true := by decide
  have a1 : decide (0 ≤ aa i) = true := decide_eq_true hb.1
  have a2 : decide (aa i < 4) = true := decide_eq_true hb.2
  have a3 : decide (0 ≤ k) = true := decide_eq_true hnl.1
  have a4 : decide (Int.ofNat tk = k) = true := decide_eq_true hnl.2
  have a5 : decide (Int.ofNat P.length = Int.ofNat tk + 1) = true := by rw [f2]; simp
  have a6 : decide (Int.ofNat (tk + 1) = Int.ofNat tk + 1) = true := by simp
  have g1 : (SS.mk 4 dur torn P (tk + 1) true false 0).revE = 0 := rfl
  have g2 : decide (Int.ofNat ((SS.mk 4 dur torn P (tk + 1) true false 0).revived keep false).P.length = 0) = true := by kernel_rfl
  have g3 : ((SS.mk 4 dur torn P (tk + 1) true false 0).revived keep false).wrE 0 64 = 0 := by kernel_rfl
  have cz := writeU_con ((SS.mk 4 dur torn P (tk + 1) true false 0).revived keep false) 0 64 64 5 (fB 9) ⟨by show 4 ≤ 512; omega, by show 0 < _; omega, by show tk + 1 < _; omega, by show 0 < _; omega, fun w hw => by cases hw⟩ (Nat.le_refl _)
  rw [g3] at cz
  rw [g1] at cr
  simp only [hlt, e1, hS, d1, d2, d3, a1, a2, a3, a4, a5, a6, g1, g2, g3, Bool.not_true, Bool.not_false, reduceCtorEq, beq_self_eq_true, false_implies, true_implies, and_true, true_and, Bool.true_eq_false, Bool.false_eq_true, bb1, bb2, bb3, bb4, decide_true, decide_false]
  exact ⟨b2, b1, fill64_con _, c0, co, cp, b3, cw, b3, cr, cq, fill64_con _, cz, hK _ _ (st_is [0] (by kernel_rfl) rfl rfl rfl trivial rfl)⟩

theorem arm_end (s : SS) (k keep : Int) (L tk : Nat) (aa : Nat → Int) (h : ArmI k tk s) (hk : k < 9223372036854775808) (ht : tk < 1000) :
    ∃ o, ∀ K, (∀ tm1 H1, StIs 1 [0] [] tm1 H1 [(7, .p 0 0), (9, .i .i64 (Int.ofNat tk))] [some s.o] → K (.st (.exit 0) tm1 H1) Orc.z) → runK Try.prog 1000000 (.code (loopAt Try.prog 7 0) 141 (mkT (armT k keep L L tk aa)) (mkH [some s.o])) o K := by
  have ok := h.ok hk ht
  refine ⟨_, fun K hK => (armL_vc _ k keep L L tk aa ok (by have := h.P; omega) (fun q hq => by have := h.at_ q hq; omega) K).mpr ⟨fun hlt => by simp at hlt, fun _ => ?_⟩⟩
  exact hK _ _ (st_is [0] (by kernel_rfl) rfl rfl rfl ⟨by kernel_rfl, by kernel_rfl, trivial⟩ rfl)

/-- How many of the first places are in the store. -/
def takenN (aa : Nat → Int) : Nat → Nat
  | 0 => 0
  | i + 1 => bif decide (0 ≤ aa i ∧ aa i < 4) then takenN aa i + 1 else takenN aa i
theorem takenN_mono (aa : Nat → Int) : ∀ {i j : Nat}, i ≤ j → takenN aa i ≤ takenN aa j := by
  intro i j h
  induction j with
  | zero => obtain rfl : i = 0 := by omega
            exact Nat.le_refl _
  | succ j ih =>
    by_cases e : i = j + 1
    · subst e; exact Nat.le_refl _
    · have := ih (by omega)
      show takenN aa i ≤ bif decide (0 ≤ aa j ∧ aa j < 4) then takenN aa j + 1 else takenN aa j
      cases decide (0 ≤ aa j ∧ aa j < 4) <;> simp <;> omega
theorem takenN_le (aa : Nat → Int) : ∀ i, takenN aa i ≤ i
  | 0 => Nat.le_refl _
  | i + 1 => by
    have := takenN_le aa i
    show (bif decide (0 ≤ aa i ∧ aa i < 4) then takenN aa i + 1 else takenN aa i) ≤ i + 1
    cases decide (0 ≤ aa i ∧ aa i < 4) <;> simp <;> omega
noncomputable def armS (k : Int) (aa : Nat → Int) : Nat → SS
  | 0 => (SS.new 4).arm k
  | i + 1 => (armS k aa i).wrS (aa i) 64 (fB (wrapA .u8 (Int.ofNat i + 1)))

theorem armI_0 (k : Int) (aa : Nat → Int) : ArmI k 0 (armS k aa 0) := ⟨rfl, rfl, rfl, rfl, rfl, by show k.toNat = _; simp, fun h => by simpa using h, fun w hw => by cases hw⟩

/-- The loop's rounds: bad places, good ones, and the one at which the power goes. -/
theorem arm_lp {k keep : Int} {L : Nat} {aa : Nat → Int} {x : XO} {l' : List (Nat × AV)} {objs' : List (Option AObj)} (hk : k < 9223372036854775808) (hL : L ≤ 100) (hx : x ≠ .nrm)
    (hlast : (0 ≤ k ∧ k < Int.ofNat (takenN aa L)) → x = .ret ∧ l' = [(6, .b true)] ∧ objs' = [none])
    (hend : ¬ (0 ≤ k ∧ k < Int.ofNat (takenN aa L)) → x = .exit 0 ∧ l' = [(7, .p 0 0), (9, .i .i64 (Int.ofNat (takenN aa L)))] ∧ objs' = [some (armS k aa L).o]) :
    LDoes Try.prog (loopAt Try.prog 7 0) 141 1 (mkT (armT k keep L 0 0 aa)) [some (armS k aa 0).o] x (mkT l') objs' := by
  refine loop_indV (D := Nat) (l' := l') (fun i => (armT k keep L i (takenN aa i) aa, [some (armS k aa i).o])) (fun i => L - i) (fun i => i ≤ L ∧ ArmI k (takenN aa i) (armS k aa i)) ?_ 0 ⟨Nat.zero_le _, armI_0 k aa⟩
  rintro i ⟨hi, h⟩
  have ht : takenN aa i < 1000 := by have := takenN_le aa i; omega
  refine ⟨Nat.le_refl 1, 1000000, ?_⟩
  by_cases hlt : i < L
  · by_cases hb : 0 ≤ aa i ∧ aa i < 4
    · have hd : decide (0 ≤ aa i ∧ aa i < 4) = true := decide_eq_true hb
      have e : takenN aa (i + 1) = takenN aa i + 1 := by
        show (bif decide (0 ≤ aa i ∧ aa i < 4) then takenN aa i + 1 else takenN aa i) = _
        rw [hd]; rfl
      by_cases hl : 0 ≤ k ∧ Int.ofNat (takenN aa i) = k
      · obtain ⟨o, ho⟩ := arm_last (armS k aa i) k keep L i (takenN aa i) aa h hk ht (by omega) hlt hb hl
        refine ⟨o, ho _ fun tm1 H1 hst => ?_⟩
        have hm := takenN_mono aa (show i + 1 ≤ L by omega)
        obtain ⟨rfl, rfl, rfl⟩ := hlast ⟨hl.1, by rw [← hl.2]; simp; omega⟩
        exact .inr ⟨[0], [], tm1, H1, _, _, rfl, hx, hst, .refl _, OVL.refl _⟩
      · obtain ⟨o, ho⟩ := arm_good (armS k aa i) k keep L i (takenN aa i) aa h hk ht (by omega) hlt hb hl
        refine ⟨o, ho _ fun tm1 H1 hst => .inl ⟨i + 1, [0], [], tm1, H1, _, _, ⟨hlt, ?_⟩, by simp only; omega, rfl, hst, ?_, OVL.refl _⟩⟩
        · rw [e]; exact (h.good hb hl _).2
        · simp only; rw [e]; exact .refl _
    · have hd : decide (0 ≤ aa i ∧ aa i < 4) = false := decide_eq_false hb
      have e : takenN aa (i + 1) = takenN aa i := by
        show (bif decide (0 ≤ aa i ∧ aa i < 4) then takenN aa i + 1 else takenN aa i) = _
        rw [hd]; rfl
      have es : armS k aa (i + 1) = armS k aa i := (h.bad hb _).2
      obtain ⟨o, ho⟩ := arm_bad (armS k aa i) k keep L i (takenN aa i) aa h hk ht (by omega) hlt hb
      refine ⟨o, ho _ fun tm1 H1 hst => .inl ⟨i + 1, [0], [], tm1, H1, _, _, ⟨hlt, ?_⟩, by simp only; omega, rfl, hst, ?_, ?_⟩⟩
      · rw [e, es]; exact h
      · simp only; rw [e]; exact .refl _
      · simp only; rw [es]; exact OVL.refl _
  · obtain rfl : i = L := by omega
    obtain ⟨o, ho⟩ := arm_end (armS k aa i) k keep i (takenN aa i) aa h hk ht
    refine ⟨o, ho _ fun tm1 H1 hst => ?_⟩
    have hn : ¬ (0 ≤ k ∧ k < Int.ofNat (takenN aa i)) := by
      rintro ⟨q1, q2⟩
      have := h.le q1
      simp at q2; omega
    obtain ⟨rfl, rfl, rfl⟩ := hend hn
    exact .inr ⟨[0], [], tm1, H1, _, _, rfl, hx, hst, .refl _, OVL.refl _⟩

end Go.Proofs.St
