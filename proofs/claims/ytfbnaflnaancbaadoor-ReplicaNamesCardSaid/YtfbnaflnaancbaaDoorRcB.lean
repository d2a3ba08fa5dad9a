/- Runs over unknown values, told by the kernel: part RcB. -/
import Derived.Test.YtfbnaflnaancbaaDoorRcA
set_option linter.unusedSimpArgs false
set_option linter.unusedVariables false
set_option maxRecDepth 20000
namespace Go.Proofs.Cl
open Go Go.Sim Go.Proofs Go.Proofs.Cd Go.Proofs.St Go.Proofs.YtfbnaflnaancbaaDoor
theorem bo0_vc (K : Res → Orc → Prop) : runK Tryd.prog 1000000 (.call 111 [.s []] (mkH [])) (Orc.c (Orc.inl (Orc.inl (Orc.c (Orc.inl (Orc.inl (Orc.c (Orc.c (Orc.inl (Orc.inl (Orc.c
  (Orc.c (Orc.inl (Orc.c (Orc.inl (Orc.c (Orc.c (Orc.c (Orc.c (Orc.c (Orc.c Orc.z))))))))))))))))))))) K = (True ∧ True ∧ True ∧ True ∧ True ∧ True ∧ True ∧ True ∧ True ∧
  ((-9223372036854775808 : Int) ≤ (0 : Int) ∧ (0 : Int) ≤ (9223372036854775807 : Int)) ∧ ((0 : Int) ≤ (0 : Int) ∧ True ∧ 0 ≤ 0 ∧ 0 ≤ 0) ∧ True ∧ True ∧ K (Res.rv (AV.agg [AV.i .i64
  (0 : Int), AV.s []]) { tree := z1 (AObj.cells 79 2 [AV.i .i64 (0 : Int), AV.s []] (z1 (AV.i .i64 (0 : Int)) (zl (AV.s [])) T.e)) (z1 (AObj.cells 5 0 [] T.e) (zl (AObj.cells 219 2 [] (z1 (AV.l 2 0 0 0 1 true) (zl (AV.i .i64 (10 : Int))) T.e))) T.e) (z1 (AObj.cells 5 0 [] T.e) (zl (AObj.cells 79 2 [AV.i .i64 (0 : Int), AV.s []] (z1 (AV.i .i64 (0 : Int)) (zl (AV.s [])) T.e))) T.e), next := 5, log := [0, 4, 4, 3, 3, 3, 2, 2, 1, 0] })
  Orc.z) := by kernel_rfl

theorem bo1_vc (K : Res → Orc → Prop) : runK Tryd.prog 1000000 (.call 111 [.s [1, 97]] (mkH [])) (Orc.c (Orc.inl (Orc.inl (Orc.c (Orc.inl (Orc.inl (Orc.c (Orc.c (Orc.inl (Orc.inl
  (Orc.c (Orc.c (Orc.c (Orc.c (Orc.c (Orc.c (Orc.c (Orc.c (Orc.c (Orc.c (Orc.inl (Orc.c (Orc.inl (Orc.c (Orc.c (Orc.c (Orc.inl (Orc.inl (Orc.c (Orc.c (Orc.c (Orc.c (Orc.c (Orc.c
  (Orc.c (Orc.c (Orc.c (Orc.c (Orc.c (Orc.c Orc.z)))))))))))))))))))))))))))))))))))))))) K = (True ∧ True ∧ True ∧ True ∧ True ∧ ((-9223372036854775808 : Int) ≤ (1 : Int) ∧ (1 :
  Int) ≤ (9223372036854775807 : Int)) ∧ ((-9223372036854775808 : Int) ≤ (0 : Int) ∧ (0 : Int) ≤ (9223372036854775807 : Int)) ∧ (0 : Int) ≤ (0 : Int) ∧ True ∧ ((-9223372036854775808
  : Int) ≤ (1 : Int) ∧ (1 : Int) ≤ (9223372036854775807 : Int)) ∧ True ∧ True ∧ True ∧ True ∧ True ∧ ((-9223372036854775808 : Int) ≤ (1 : Int) ∧ (1 : Int) ≤ (9223372036854775807 :
  Int)) ∧ ((0 : Int) ≤ (1 : Int) ∧ True ∧ 1 ≤ 2 ∧ 2 ≤ 2) ∧ True ∧ True ∧ True ∧ True ∧ True ∧ K (Res.rv (AV.agg [AV.i .i64 (1 : Int), AV.s [97]]) { tree := z1 (AObj.cells 79 2 [AV.i .i64 (0 : Int), AV.s []] (z1 (AV.i .i64 (1 : Int)) (zl (AV.s [97])) T.e)) (z1 (AObj.cells 5 2 [] (z1 (AV.i .u8 (1 : Int)) (zl (AV.i .u8 (97 : Int))) T.e)) (zl (AObj.cells 5 2 [] (z1 (AV.i .u8 (1 : Int)) (zl (AV.i .u8 (97 : Int))) T.e))) (zl (AObj.cells 79 2 [AV.i .i64 (0 : Int), AV.s []] (z1 (AV.i .i64 (1 : Int)) (zl (AV.s [97])) T.e)))) (z1 (AObj.cells 5 0 [] T.e) (zl (AObj.cells 219 2 [] (z1 (AV.l 3 1 1 1 1 false) (zl (AV.i .i64 (0 : Int))) T.e))) (zl (AObj.cells 79 2 [] (z1 (AV.i .i64 (1 : Int)) (zl (AV.s [97])) T.e)))), next := 7, log := [0, 6, 5, 5, 4, 4, 4, 3, 2, 1, 0] })
  Orc.z) := by kernel_rfl

theorem bo2_vc (K : Res → Orc → Prop) : runK Tryd.prog 1000000 (.call 111 [.s [5, 98]] (mkH [])) (Orc.c (Orc.inl (Orc.inl (Orc.c (Orc.inl (Orc.inl (Orc.c (Orc.c (Orc.inl (Orc.inl
  (Orc.c (Orc.c (Orc.c (Orc.c (Orc.c (Orc.c (Orc.c (Orc.c (Orc.c (Orc.c (Orc.inl (Orc.c (Orc.inl (Orc.c (Orc.c (Orc.c (Orc.inl (Orc.inl (Orc.c (Orc.c (Orc.c (Orc.c (Orc.c (Orc.c
  (Orc.c (Orc.c (Orc.c (Orc.c (Orc.c (Orc.c Orc.z)))))))))))))))))))))))))))))))))))))))) K = (True ∧ True ∧ True ∧ True ∧ True ∧ ((-9223372036854775808 : Int) ≤ (5 : Int) ∧ (5 :
  Int) ≤ (9223372036854775807 : Int)) ∧ ((-9223372036854775808 : Int) ≤ (0 : Int) ∧ (0 : Int) ≤ (9223372036854775807 : Int)) ∧ (0 : Int) ≤ (0 : Int) ∧ True ∧ ((-9223372036854775808
  : Int) ≤ (1 : Int) ∧ (1 : Int) ≤ (9223372036854775807 : Int)) ∧ True ∧ True ∧ True ∧ True ∧ True ∧ ((-9223372036854775808 : Int) ≤ (1 : Int) ∧ (1 : Int) ≤ (9223372036854775807 :
  Int)) ∧ ((0 : Int) ≤ (1 : Int) ∧ True ∧ 1 ≤ 2 ∧ 2 ≤ 2) ∧ True ∧ True ∧ True ∧ True ∧ True ∧ K (Res.rv (AV.agg [AV.i .i64 (5 : Int), AV.s [98]]) { tree := z1 (AObj.cells 79 2 [AV.i .i64 (0 : Int), AV.s []] (z1 (AV.i .i64 (5 : Int)) (zl (AV.s [98])) T.e)) (z1 (AObj.cells 5 2 [] (z1 (AV.i .u8 (5 : Int)) (zl (AV.i .u8 (98 : Int))) T.e)) (zl (AObj.cells 5 2 [] (z1 (AV.i .u8 (5 : Int)) (zl (AV.i .u8 (98 : Int))) T.e))) (zl (AObj.cells 79 2 [AV.i .i64 (0 : Int), AV.s []] (z1 (AV.i .i64 (5 : Int)) (zl (AV.s [98])) T.e)))) (z1 (AObj.cells 5 0 [] T.e) (zl (AObj.cells 219 2 [] (z1 (AV.l 3 1 1 1 1 false) (zl (AV.i .i64 (0 : Int))) T.e))) (zl (AObj.cells 79 2 [] (z1 (AV.i .i64 (5 : Int)) (zl (AV.s [98])) T.e)))), next := 7, log := [0, 6, 5, 5, 4, 4, 4, 3, 2, 1, 0] })
  Orc.z) := by kernel_rfl

theorem bo3_vc (K : Res → Orc → Prop) : runK Tryd.prog 1000000 (.call 111 [.s [6, 99]] (mkH [])) (Orc.c (Orc.inl (Orc.inl (Orc.c (Orc.inl (Orc.inl (Orc.c (Orc.c (Orc.inl (Orc.inl
  (Orc.c (Orc.c (Orc.c (Orc.c (Orc.c (Orc.c (Orc.c (Orc.c (Orc.c (Orc.c (Orc.inl (Orc.c (Orc.inl (Orc.c (Orc.c (Orc.c (Orc.inl (Orc.inl (Orc.c (Orc.c (Orc.c (Orc.c (Orc.c (Orc.c
  (Orc.c (Orc.c (Orc.c (Orc.c (Orc.c (Orc.c Orc.z)))))))))))))))))))))))))))))))))))))))) K = (True ∧ True ∧ True ∧ True ∧ True ∧ ((-9223372036854775808 : Int) ≤ (6 : Int) ∧ (6 :
  Int) ≤ (9223372036854775807 : Int)) ∧ ((-9223372036854775808 : Int) ≤ (0 : Int) ∧ (0 : Int) ≤ (9223372036854775807 : Int)) ∧ (0 : Int) ≤ (0 : Int) ∧ True ∧ ((-9223372036854775808
  : Int) ≤ (1 : Int) ∧ (1 : Int) ≤ (9223372036854775807 : Int)) ∧ True ∧ True ∧ True ∧ True ∧ True ∧ ((-9223372036854775808 : Int) ≤ (1 : Int) ∧ (1 : Int) ≤ (9223372036854775807 :
  Int)) ∧ ((0 : Int) ≤ (1 : Int) ∧ True ∧ 1 ≤ 2 ∧ 2 ≤ 2) ∧ True ∧ True ∧ True ∧ True ∧ True ∧ K (Res.rv (AV.agg [AV.i .i64 (6 : Int), AV.s [99]]) { tree := z1 (AObj.cells 79 2 [AV.i .i64 (0 : Int), AV.s []] (z1 (AV.i .i64 (6 : Int)) (zl (AV.s [99])) T.e)) (z1 (AObj.cells 5 2 [] (z1 (AV.i .u8 (6 : Int)) (zl (AV.i .u8 (99 : Int))) T.e)) (zl (AObj.cells 5 2 [] (z1 (AV.i .u8 (6 : Int)) (zl (AV.i .u8 (99 : Int))) T.e))) (zl (AObj.cells 79 2 [AV.i .i64 (0 : Int), AV.s []] (z1 (AV.i .i64 (6 : Int)) (zl (AV.s [99])) T.e)))) (z1 (AObj.cells 5 0 [] T.e) (zl (AObj.cells 219 2 [] (z1 (AV.l 3 1 1 1 1 false) (zl (AV.i .i64 (0 : Int))) T.e))) (zl (AObj.cells 79 2 [] (z1 (AV.i .i64 (6 : Int)) (zl (AV.s [99])) T.e)))), next := 7, log := [0, 6, 5, 5, 4, 4, 4, 3, 2, 1, 0] })
  Orc.z) := by kernel_rfl

theorem bo4_vc (K : Res → Orc → Prop) : runK Tryd.prog 1000000 (.call 111 [.s [2, 122]] (mkH [])) (Orc.c (Orc.inl (Orc.inl (Orc.c (Orc.inl (Orc.inl (Orc.c (Orc.c (Orc.inl (Orc.inl
  (Orc.c (Orc.c (Orc.c (Orc.c (Orc.c (Orc.c (Orc.c (Orc.c (Orc.c (Orc.c (Orc.inl (Orc.c (Orc.inl (Orc.c (Orc.c (Orc.c (Orc.inl (Orc.inl (Orc.c (Orc.c (Orc.c (Orc.c (Orc.c (Orc.c
  (Orc.c (Orc.c (Orc.c (Orc.c (Orc.c (Orc.c Orc.z)))))))))))))))))))))))))))))))))))))))) K = (True ∧ True ∧ True ∧ True ∧ True ∧ ((-9223372036854775808 : Int) ≤ (2 : Int) ∧ (2 :
  Int) ≤ (9223372036854775807 : Int)) ∧ ((-9223372036854775808 : Int) ≤ (0 : Int) ∧ (0 : Int) ≤ (9223372036854775807 : Int)) ∧ (0 : Int) ≤ (0 : Int) ∧ True ∧ ((-9223372036854775808
  : Int) ≤ (1 : Int) ∧ (1 : Int) ≤ (9223372036854775807 : Int)) ∧ True ∧ True ∧ True ∧ True ∧ True ∧ ((-9223372036854775808 : Int) ≤ (1 : Int) ∧ (1 : Int) ≤ (9223372036854775807 :
  Int)) ∧ ((0 : Int) ≤ (1 : Int) ∧ True ∧ 1 ≤ 2 ∧ 2 ≤ 2) ∧ True ∧ True ∧ True ∧ True ∧ True ∧ K (Res.rv (AV.agg [AV.i .i64 (2 : Int), AV.s [122]]) { tree := z1 (AObj.cells 79 2 [AV.i .i64 (0 : Int), AV.s []] (z1 (AV.i .i64 (2 : Int)) (zl (AV.s [122])) T.e)) (z1 (AObj.cells 5 2 [] (z1 (AV.i .u8 (2 : Int)) (zl (AV.i .u8 (122 : Int))) T.e)) (zl (AObj.cells 5 2 [] (z1 (AV.i .u8 (2 : Int)) (zl (AV.i .u8 (122 : Int))) T.e))) (zl (AObj.cells 79 2 [AV.i .i64 (0 : Int), AV.s []] (z1 (AV.i .i64 (2 : Int)) (zl (AV.s [122])) T.e)))) (z1 (AObj.cells 5 0 [] T.e) (zl (AObj.cells 219 2 [] (z1 (AV.l 3 1 1 1 1 false) (zl (AV.i .i64 (0 : Int))) T.e))) (zl (AObj.cells 79 2 [] (z1 (AV.i .i64 (2 : Int)) (zl (AV.s [122])) T.e)))), next := 7, log := [0, 6, 5, 5, 4, 4, 4, 3, 2, 1, 0] })
  Orc.z) := by kernel_rfl

theorem bt0_vc (K : Res → Orc → Prop) : runK Tryd.prog 1000000 (.call 104 [.agg [.i .i64 1, .s [97]]] (mkH [])) (Orc.c (Orc.inl (Orc.c (Orc.inl (Orc.c (Orc.inl (Orc.c (Orc.c (Orc.c
  (Orc.c (Orc.c (Orc.c (Orc.c (Orc.c (Orc.c (Orc.c (Orc.c (Orc.c (Orc.c (Orc.c (Orc.c (Orc.inl (Orc.c (Orc.c (Orc.c (Orc.c (Orc.c (Orc.c (Orc.c (Orc.inl (Orc.c (Orc.c (Orc.c (Orc.c
  (Orc.c (Orc.c (Orc.c (Orc.inl (Orc.c Orc.z))))))))))))))))))))))))))))))))))))))) K = (True ∧ True ∧ True ∧ True ∧ True ∧ True ∧ True ∧ True ∧ True ∧ True ∧ True ∧ True ∧ True ∧
  True ∧ True ∧ ((-9223372036854775808 : Int) ≤ (1 : Int) ∧ (1 : Int) ≤ (9223372036854775807 : Int)) ∧ True ∧ True ∧ True ∧ True ∧ True ∧ True ∧ True ∧ True ∧ True ∧ 2 ≤ 1073741824
  ∧ K (Res.rv (AV.s [1, 97]) { tree := z1 (AObj.cells 79 2 [] (z1 (AV.i .i64 (1 : Int)) (zl (AV.s [97])) T.e)) (z1 (AObj.cells 200 2 [AV.p0, AV.i .i64 (0 : Int)] (z1 (AV.p 2 0) (zl (AV.i .i64 (1 : Int))) T.e)) (zl (AObj.cells 5 1 [] (zl (AV.i .u8 (1 : Int))))) (zl (AObj.cells 5 0 [] T.e))) (z1 (AObj.cells 217 1 [] (zl (AV.l 4 0 1 1 1 false))) (zl (AObj.cells 5 1 [] (zl (AV.i .u8 (1 : Int))))) (zl (AObj.cells 5 1 [] (zl (AV.i .u8 (1 : Int)))))), next := 7, log := [6, 5, 1, 2, 4, 3, 1, 2, 1, 0] })
  Orc.z) := by kernel_rfl

theorem bt1_vc (K : Res → Orc → Prop) : runK Tryd.prog 1000000 (.call 104 [.agg [.i .i64 5, .s [98]]] (mkH [])) (Orc.c (Orc.inl (Orc.c (Orc.inl (Orc.c (Orc.inl (Orc.c (Orc.c (Orc.c
  (Orc.c (Orc.c (Orc.c (Orc.c (Orc.c (Orc.c (Orc.c (Orc.c (Orc.c (Orc.c (Orc.c (Orc.c (Orc.inl (Orc.c (Orc.c (Orc.c (Orc.c (Orc.c (Orc.c (Orc.c (Orc.inl (Orc.c (Orc.c (Orc.c (Orc.c
  (Orc.c (Orc.c (Orc.c (Orc.inl (Orc.c Orc.z))))))))))))))))))))))))))))))))))))))) K = (True ∧ True ∧ True ∧ True ∧ True ∧ True ∧ True ∧ True ∧ True ∧ True ∧ True ∧ True ∧ True ∧
  True ∧ True ∧ ((-9223372036854775808 : Int) ≤ (1 : Int) ∧ (1 : Int) ≤ (9223372036854775807 : Int)) ∧ True ∧ True ∧ True ∧ True ∧ True ∧ True ∧ True ∧ True ∧ True ∧ 2 ≤ 1073741824
  ∧ K (Res.rv (AV.s [5, 98]) { tree := z1 (AObj.cells 79 2 [] (z1 (AV.i .i64 (5 : Int)) (zl (AV.s [98])) T.e)) (z1 (AObj.cells 200 2 [AV.p0, AV.i .i64 (0 : Int)] (z1 (AV.p 2 0) (zl (AV.i .i64 (1 : Int))) T.e)) (zl (AObj.cells 5 1 [] (zl (AV.i .u8 (5 : Int))))) (zl (AObj.cells 5 0 [] T.e))) (z1 (AObj.cells 217 1 [] (zl (AV.l 4 0 1 1 1 false))) (zl (AObj.cells 5 1 [] (zl (AV.i .u8 (5 : Int))))) (zl (AObj.cells 5 1 [] (zl (AV.i .u8 (5 : Int)))))), next := 7, log := [6, 5, 1, 2, 4, 3, 1, 2, 1, 0] })
  Orc.z) := by kernel_rfl

theorem bt2_vc (K : Res → Orc → Prop) : runK Tryd.prog 1000000 (.call 104 [.agg [.i .i64 6, .s [99]]] (mkH [])) (Orc.c (Orc.inl (Orc.c (Orc.inl (Orc.c (Orc.inl (Orc.c (Orc.c (Orc.c
  (Orc.c (Orc.c (Orc.c (Orc.c (Orc.c (Orc.c (Orc.c (Orc.c (Orc.c (Orc.c (Orc.c (Orc.c (Orc.inl (Orc.c (Orc.c (Orc.c (Orc.c (Orc.c (Orc.c (Orc.c (Orc.inl (Orc.c (Orc.c (Orc.c (Orc.c
  (Orc.c (Orc.c (Orc.c (Orc.inl (Orc.c Orc.z))))))))))))))))))))))))))))))))))))))) K = (True ∧ True ∧ True ∧ True ∧ True ∧ True ∧ True ∧ True ∧ True ∧ True ∧ True ∧ True ∧ True ∧
  True ∧ True ∧ ((-9223372036854775808 : Int) ≤ (1 : Int) ∧ (1 : Int) ≤ (9223372036854775807 : Int)) ∧ True ∧ True ∧ True ∧ True ∧ True ∧ True ∧ True ∧ True ∧ True ∧ 2 ≤ 1073741824
  ∧ K (Res.rv (AV.s [6, 99]) { tree := z1 (AObj.cells 79 2 [] (z1 (AV.i .i64 (6 : Int)) (zl (AV.s [99])) T.e)) (z1 (AObj.cells 200 2 [AV.p0, AV.i .i64 (0 : Int)] (z1 (AV.p 2 0) (zl (AV.i .i64 (1 : Int))) T.e)) (zl (AObj.cells 5 1 [] (zl (AV.i .u8 (6 : Int))))) (zl (AObj.cells 5 0 [] T.e))) (z1 (AObj.cells 217 1 [] (zl (AV.l 4 0 1 1 1 false))) (zl (AObj.cells 5 1 [] (zl (AV.i .u8 (6 : Int))))) (zl (AObj.cells 5 1 [] (zl (AV.i .u8 (6 : Int)))))), next := 7, log := [6, 5, 1, 2, 4, 3, 1, 2, 1, 0] })
  Orc.z) := by kernel_rfl

theorem bt3_vc (K : Res → Orc → Prop) : runK Tryd.prog 1000000 (.call 104 [.agg [.i .i64 2, .s [122]]] (mkH [])) (Orc.c (Orc.inl (Orc.c (Orc.inl (Orc.c (Orc.inl (Orc.c (Orc.c
  (Orc.c (Orc.c (Orc.c (Orc.c (Orc.c (Orc.c (Orc.c (Orc.c (Orc.c (Orc.c (Orc.c (Orc.c (Orc.c (Orc.inl (Orc.c (Orc.c (Orc.c (Orc.c (Orc.c (Orc.c (Orc.c (Orc.inl (Orc.c (Orc.c (Orc.c
  (Orc.c (Orc.c (Orc.c (Orc.c (Orc.inl (Orc.c Orc.z))))))))))))))))))))))))))))))))))))))) K = (True ∧ True ∧ True ∧ True ∧ True ∧ True ∧ True ∧ True ∧ True ∧ True ∧ True ∧ True ∧
  True ∧ True ∧ True ∧ ((-9223372036854775808 : Int) ≤ (1 : Int) ∧ (1 : Int) ≤ (9223372036854775807 : Int)) ∧ True ∧ True ∧ True ∧ True ∧ True ∧ True ∧ True ∧ True ∧ True ∧ 2 ≤
  1073741824 ∧ K (Res.rv (AV.s [2, 122]) { tree := z1 (AObj.cells 79 2 [] (z1 (AV.i .i64 (2 : Int)) (zl (AV.s [122])) T.e)) (z1 (AObj.cells 200 2 [AV.p0, AV.i .i64 (0 : Int)] (z1 (AV.p 2 0) (zl (AV.i .i64 (1 : Int))) T.e)) (zl (AObj.cells 5 1 [] (zl (AV.i .u8 (2 : Int))))) (zl (AObj.cells 5 0 [] T.e))) (z1 (AObj.cells 217 1 [] (zl (AV.l 4 0 1 1 1 false))) (zl (AObj.cells 5 1 [] (zl (AV.i .u8 (2 : Int))))) (zl (AObj.cells 5 1 [] (zl (AV.i .u8 (2 : Int)))))), next := 7, log := [6, 5, 1, 2, 4, 3, 1, 2, 1, 0] })
  Orc.z) := by kernel_rfl

theorem mo0_vc (K : Res → Orc → Prop) : runK Tryd.prog 1000000 (.call 112 [.s []] (mkH [])) (Orc.c (Orc.inl (Orc.inl (Orc.c (Orc.inl (Orc.inl (Orc.inl (Orc.inl (Orc.c (Orc.c
  (Orc.inl (Orc.inl (Orc.c (Orc.c (Orc.inl (Orc.inl (Orc.inl (Orc.c (Orc.c (Orc.inl (Orc.c (Orc.c (Orc.inl (Orc.inl (Orc.inl (Orc.c (Orc.c (Orc.inl (Orc.c (Orc.c (Orc.inl (Orc.inl
  (Orc.inl (Orc.c (Orc.c (Orc.inl (Orc.c (Orc.c (Orc.inl (Orc.inl (Orc.inl (Orc.c (Orc.c (Orc.inl (Orc.c (Orc.inl (Orc.c (Orc.c (Orc.c (Orc.c (Orc.c (Orc.c (Orc.c (Orc.c (Orc.c
  Orc.z))))))))))))))))))))))))))))))))))))))))))))))))))))))) K = (True ∧ True ∧ True ∧ True ∧ True ∧ True ∧ True ∧ True ∧ True ∧ True ∧ True ∧ True ∧ True ∧ True ∧
  ((-9223372036854775808 : Int) ≤ (1 : Int) ∧ (1 : Int) ≤ (9223372036854775807 : Int)) ∧ True ∧ True ∧ True ∧ ((-9223372036854775808 : Int) ≤ (2 : Int) ∧ (2 : Int) ≤
  (9223372036854775807 : Int)) ∧ True ∧ True ∧ True ∧ ((-9223372036854775808 : Int) ≤ (3 : Int) ∧ (3 : Int) ≤ (9223372036854775807 : Int)) ∧ True ∧ True ∧ K (Res.rv (AV.agg [AV.i
  .i64 (0 : Int), AV.i .i64 (0 : Int), AV.i .i64 (0 : Int), AV.i .i64 (0 : Int), AV.i .i64 (0 : Int)]) { tree := z1 (AObj.cells 97 5 [AV.i .i64 (0 : Int), AV.i .i64 (0 : Int), AV.i .i64 (0 : Int), AV.i .i64 (0 : Int), AV.i .i64 (0 : Int)] (z1 (AV.i .i64 (0 : Int)) (z1 (AV.i .i64 (0 : Int)) (zl (AV.i .i64 (0 : Int))) T.e) (z1 (AV.i .i64 (0 : Int)) (zl (AV.i .i64 (0 : Int))) T.e))) (z1 (AObj.cells 5 0 [] T.e) (zl (AObj.cells 219 2 [] (z1 (AV.l 2 0 0 0 1 true) (zl (AV.i .i64 (10 : Int))) T.e))) (zl (AObj.cells 97 5 [AV.i .i64 (0 : Int), AV.i .i64 (0 : Int), AV.i .i64 (0 : Int), AV.i .i64 (0 : Int), AV.i .i64 (0 : Int)] (z1 (AV.i .i64 (0 : Int)) (z1 (AV.i .i64 (0 : Int)) (zl (AV.i .i64 (0 : Int))) T.e) (z1 (AV.i .i64 (0 : Int)) (zl (AV.i .i64 (0 : Int))) T.e))))) (z1 (AObj.cells 5 0 [] T.e) (zl (AObj.cells 202 1 [AV.p0] (zl (AV.p 3 0)))) (zl (AObj.cells 3 1 [AV.i .i64 (0 : Int)] (zl (AV.i .i64 (0 : Int)))))), next := 7, log := [0, 6, 5, 6, 5, 6, 5, 6, 5, 6, 5, 3, 3, 6, 5, 6, 5, 4, 4, 3, 2, 2, 1, 0] })
  Orc.z) := by kernel_rfl

theorem mo1_vc (K : Res → Orc → Prop) : runK Tryd.prog 1000000 (.call 112 [.s [0, 0, 2, 0, 0]] (mkH [])) (Orc.c (Orc.inl (Orc.inl (Orc.c (Orc.inl (Orc.inl (Orc.inl (Orc.inl (Orc.c
  (Orc.c (Orc.inl (Orc.inl (Orc.c (Orc.c (Orc.c (Orc.c (Orc.c (Orc.c (Orc.c (Orc.c (Orc.c (Orc.c (Orc.inl (Orc.inl (Orc.inl (Orc.c (Orc.c (Orc.inl (Orc.inl (Orc.c (Orc.c (Orc.c
  (Orc.c (Orc.c (Orc.c (Orc.c (Orc.c (Orc.c (Orc.c (Orc.inl (Orc.c (Orc.c (Orc.inl (Orc.inl (Orc.inl (Orc.c (Orc.c (Orc.inl (Orc.inl (Orc.c (Orc.c (Orc.c (Orc.c (Orc.c (Orc.c (Orc.c
  (Orc.c (Orc.c (Orc.c (Orc.inl (Orc.c (Orc.c (Orc.inl (Orc.inl (Orc.inl (Orc.c (Orc.c (Orc.inl (Orc.inl (Orc.c (Orc.c (Orc.c (Orc.c (Orc.c (Orc.c (Orc.c (Orc.c (Orc.c (Orc.c
  (Orc.inl (Orc.c (Orc.c (Orc.inl (Orc.inl (Orc.inl (Orc.c (Orc.c (Orc.inl (Orc.inl (Orc.c (Orc.c (Orc.c (Orc.c (Orc.c (Orc.c (Orc.c (Orc.c (Orc.c (Orc.c (Orc.inl (Orc.c (Orc.inl
  (Orc.c (Orc.c (Orc.c (Orc.inl (Orc.c (Orc.c (Orc.c (Orc.c (Orc.c (Orc.c (Orc.c
  Orc.z))))))))))))))))))))))))))))))))))))))))))))))))))))))))))))))))))))))))))))))))))))))))))))))))))))))))))))))))) K = (True ∧ True ∧ True ∧ True ∧ True ∧ True ∧
  ((-9223372036854775808 : Int) ≤ (0 : Int) ∧ (0 : Int) ≤ (9223372036854775807 : Int)) ∧ ((-9223372036854775808 : Int) ≤ (0 : Int) ∧ (0 : Int) ≤ (9223372036854775807 : Int)) ∧ (0 :
  Int) ≤ (0 : Int) ∧ True ∧ ((-9223372036854775808 : Int) ≤ (1 : Int) ∧ (1 : Int) ≤ (9223372036854775807 : Int)) ∧ True ∧ True ∧ True ∧ True ∧ True ∧ True ∧ True ∧ True ∧
  ((-9223372036854775808 : Int) ≤ (0 : Int) ∧ (0 : Int) ≤ (9223372036854775807 : Int)) ∧ ((-9223372036854775808 : Int) ≤ (0 : Int) ∧ (0 : Int) ≤ (9223372036854775807 : Int)) ∧ (0 :
  Int) ≤ (0 : Int) ∧ True ∧ ((-9223372036854775808 : Int) ≤ (1 : Int) ∧ (1 : Int) ≤ (9223372036854775807 : Int)) ∧ True ∧ True ∧ True ∧ True ∧ True ∧ True ∧ True ∧ True ∧
  ((-9223372036854775808 : Int) ≤ (2 : Int) ∧ (2 : Int) ≤ (9223372036854775807 : Int)) ∧ ((-9223372036854775808 : Int) ≤ (0 : Int) ∧ (0 : Int) ≤ (9223372036854775807 : Int)) ∧ (0 :
  Int) ≤ (0 : Int) ∧ True ∧ ((-9223372036854775808 : Int) ≤ (1 : Int) ∧ (1 : Int) ≤ (9223372036854775807 : Int)) ∧ True ∧ True ∧ True ∧ ((-9223372036854775808 : Int) ≤ (1 : Int) ∧
  (1 : Int) ≤ (9223372036854775807 : Int)) ∧ True ∧ True ∧ True ∧ True ∧ True ∧ ((-9223372036854775808 : Int) ≤ (0 : Int) ∧ (0 : Int) ≤ (9223372036854775807 : Int)) ∧
  ((-9223372036854775808 : Int) ≤ (0 : Int) ∧ (0 : Int) ≤ (9223372036854775807 : Int)) ∧ (0 : Int) ≤ (0 : Int) ∧ True ∧ ((-9223372036854775808 : Int) ≤ (1 : Int) ∧ (1 : Int) ≤
  (9223372036854775807 : Int)) ∧ True ∧ True ∧ True ∧ ((-9223372036854775808 : Int) ≤ (2 : Int) ∧ (2 : Int) ≤ (9223372036854775807 : Int)) ∧ True ∧ True ∧ True ∧ True ∧ True ∧
  ((-9223372036854775808 : Int) ≤ (0 : Int) ∧ (0 : Int) ≤ (9223372036854775807 : Int)) ∧ ((-9223372036854775808 : Int) ≤ (0 : Int) ∧ (0 : Int) ≤ (9223372036854775807 : Int)) ∧ (0 :
  Int) ≤ (0 : Int) ∧ True ∧ ((-9223372036854775808 : Int) ≤ (1 : Int) ∧ (1 : Int) ≤ (9223372036854775807 : Int)) ∧ True ∧ True ∧ True ∧ ((-9223372036854775808 : Int) ≤ (3 : Int) ∧
  (3 : Int) ≤ (9223372036854775807 : Int)) ∧ True ∧ True ∧ True ∧ True ∧ K (Res.rv (AV.agg [AV.i .i64 (0 : Int), AV.i .i64 (0 : Int), AV.i .i64 (2 : Int), AV.i .i64 (0 : Int), AV.i
  .i64 (0 : Int)]) { tree := z1 (AObj.cells 97 5 [AV.i .i64 (0 : Int), AV.i .i64 (0 : Int), AV.i .i64 (0 : Int), AV.i .i64 (0 : Int), AV.i .i64 (0 : Int)] (z1 (AV.i .i64 (0 : Int)) (z1 (AV.i .i64 (0 : Int)) (zl (AV.i .i64 (0 : Int))) T.e) (z1 (AV.i .i64 (2 : Int)) (zl (AV.i .i64 (0 : Int))) T.e))) (z1 (AObj.cells 5 5 [] (z1 (AV.i .u8 (0 : Int)) (z1 (AV.i .u8 (0 : Int)) (zl (AV.i .u8 (0 : Int))) T.e) (z1 (AV.i .u8 (2 : Int)) (zl (AV.i .u8 (0 : Int))) T.e))) (z1 (AObj.cells 5 5 [] (z1 (AV.i .u8 (0 : Int)) (z1 (AV.i .u8 (0 : Int)) (zl (AV.i .u8 (0 : Int))) T.e) (z1 (AV.i .u8 (2 : Int)) (zl (AV.i .u8 (0 : Int))) T.e))) (zl (AObj.cells 3 1 [AV.i .i64 (0 : Int)] (zl (AV.i .i64 (2 : Int))))) T.e) (zl (AObj.cells 202 1 [AV.p0] (zl (AV.p 4 0))))) (z1 (AObj.cells 5 0 [] T.e) (zl (AObj.cells 219 2 [] (z1 AV.lz (zl (AV.i .i64 (0 : Int))) T.e))) (zl (AObj.cells 97 5 [AV.i .i64 (0 : Int), AV.i .i64 (0 : Int), AV.i .i64 (0 : Int), AV.i .i64 (0 : Int), AV.i .i64 (0 : Int)] (z1 (AV.i .i64 (0 : Int)) (z1 (AV.i .i64 (0 : Int)) (zl (AV.i .i64 (0 : Int))) T.e) (z1 (AV.i .i64 (2 : Int)) (zl (AV.i .i64 (0 : Int))) T.e))))), next := 8, log := [0, 7, 6, 4, 4, 7, 6, 4, 4, 7, 6, 4, 4, 7, 6, 4, 4, 7, 6, 4, 4, 7, 6, 7, 6, 5, 5, 4, 3, 2, 1, 0] })
  Orc.z) := by kernel_rfl

theorem mo2_vc (K : Res → Orc → Prop) : runK Tryd.prog 1000000 (.call 112 [.s [3, 0, 2, 0, 0]] (mkH [])) (Orc.c (Orc.inl (Orc.inl (Orc.c (Orc.inl (Orc.inl (Orc.inl (Orc.inl (Orc.c
  (Orc.c (Orc.inl (Orc.inl (Orc.c (Orc.c (Orc.c (Orc.c (Orc.c (Orc.c (Orc.c (Orc.c (Orc.c (Orc.c (Orc.inl (Orc.inl (Orc.inl (Orc.c (Orc.c (Orc.inl (Orc.inl (Orc.c (Orc.c (Orc.c
  (Orc.c (Orc.c (Orc.c (Orc.c (Orc.c (Orc.c (Orc.c (Orc.inl (Orc.c (Orc.c (Orc.inl (Orc.inl (Orc.inl (Orc.c (Orc.c (Orc.inl (Orc.inl (Orc.c (Orc.c (Orc.c (Orc.c (Orc.c (Orc.c (Orc.c
  (Orc.c (Orc.c (Orc.c (Orc.inl (Orc.c (Orc.c (Orc.inl (Orc.inl (Orc.inl (Orc.c (Orc.c (Orc.inl (Orc.inl (Orc.c (Orc.c (Orc.c (Orc.c (Orc.c (Orc.c (Orc.c (Orc.c (Orc.c (Orc.c
  (Orc.inl (Orc.c (Orc.c (Orc.inl (Orc.inl (Orc.inl (Orc.c (Orc.c (Orc.inl (Orc.inl (Orc.c (Orc.c (Orc.c (Orc.c (Orc.c (Orc.c (Orc.c (Orc.c (Orc.c (Orc.c (Orc.inl (Orc.c (Orc.inl
  (Orc.c (Orc.c (Orc.c (Orc.inl (Orc.c (Orc.c (Orc.c (Orc.c (Orc.c (Orc.c (Orc.c
  Orc.z))))))))))))))))))))))))))))))))))))))))))))))))))))))))))))))))))))))))))))))))))))))))))))))))))))))))))))))))) K = (True ∧ True ∧ True ∧ True ∧ True ∧ True ∧
  ((-9223372036854775808 : Int) ≤ (3 : Int) ∧ (3 : Int) ≤ (9223372036854775807 : Int)) ∧ ((-9223372036854775808 : Int) ≤ (0 : Int) ∧ (0 : Int) ≤ (9223372036854775807 : Int)) ∧ (0 :
  Int) ≤ (0 : Int) ∧ True ∧ ((-9223372036854775808 : Int) ≤ (1 : Int) ∧ (1 : Int) ≤ (9223372036854775807 : Int)) ∧ True ∧ True ∧ True ∧ True ∧ True ∧ True ∧ True ∧ True ∧
  ((-9223372036854775808 : Int) ≤ (0 : Int) ∧ (0 : Int) ≤ (9223372036854775807 : Int)) ∧ ((-9223372036854775808 : Int) ≤ (0 : Int) ∧ (0 : Int) ≤ (9223372036854775807 : Int)) ∧ (0 :
  Int) ≤ (0 : Int) ∧ True ∧ ((-9223372036854775808 : Int) ≤ (1 : Int) ∧ (1 : Int) ≤ (9223372036854775807 : Int)) ∧ True ∧ True ∧ True ∧ True ∧ True ∧ True ∧ True ∧ True ∧
  ((-9223372036854775808 : Int) ≤ (2 : Int) ∧ (2 : Int) ≤ (9223372036854775807 : Int)) ∧ ((-9223372036854775808 : Int) ≤ (0 : Int) ∧ (0 : Int) ≤ (9223372036854775807 : Int)) ∧ (0 :
  Int) ≤ (0 : Int) ∧ True ∧ ((-9223372036854775808 : Int) ≤ (1 : Int) ∧ (1 : Int) ≤ (9223372036854775807 : Int)) ∧ True ∧ True ∧ True ∧ ((-9223372036854775808 : Int) ≤ (1 : Int) ∧
  (1 : Int) ≤ (9223372036854775807 : Int)) ∧ True ∧ True ∧ True ∧ True ∧ True ∧ ((-9223372036854775808 : Int) ≤ (0 : Int) ∧ (0 : Int) ≤ (9223372036854775807 : Int)) ∧
  ((-9223372036854775808 : Int) ≤ (0 : Int) ∧ (0 : Int) ≤ (9223372036854775807 : Int)) ∧ (0 : Int) ≤ (0 : Int) ∧ True ∧ ((-9223372036854775808 : Int) ≤ (1 : Int) ∧ (1 : Int) ≤
  (9223372036854775807 : Int)) ∧ True ∧ True ∧ True ∧ ((-9223372036854775808 : Int) ≤ (2 : Int) ∧ (2 : Int) ≤ (9223372036854775807 : Int)) ∧ True ∧ True ∧ True ∧ True ∧ True ∧
  ((-9223372036854775808 : Int) ≤ (0 : Int) ∧ (0 : Int) ≤ (9223372036854775807 : Int)) ∧ ((-9223372036854775808 : Int) ≤ (0 : Int) ∧ (0 : Int) ≤ (9223372036854775807 : Int)) ∧ (0 :
  Int) ≤ (0 : Int) ∧ True ∧ ((-9223372036854775808 : Int) ≤ (1 : Int) ∧ (1 : Int) ≤ (9223372036854775807 : Int)) ∧ True ∧ True ∧ True ∧ ((-9223372036854775808 : Int) ≤ (3 : Int) ∧
  (3 : Int) ≤ (9223372036854775807 : Int)) ∧ True ∧ True ∧ True ∧ True ∧ K (Res.rv (AV.agg [AV.i .i64 (3 : Int), AV.i .i64 (0 : Int), AV.i .i64 (2 : Int), AV.i .i64 (0 : Int), AV.i
  .i64 (0 : Int)]) { tree := z1 (AObj.cells 97 5 [AV.i .i64 (0 : Int), AV.i .i64 (0 : Int), AV.i .i64 (0 : Int), AV.i .i64 (0 : Int), AV.i .i64 (0 : Int)] (z1 (AV.i .i64 (3 : Int)) (z1 (AV.i .i64 (0 : Int)) (zl (AV.i .i64 (0 : Int))) T.e) (z1 (AV.i .i64 (2 : Int)) (zl (AV.i .i64 (0 : Int))) T.e))) (z1 (AObj.cells 5 5 [] (z1 (AV.i .u8 (3 : Int)) (z1 (AV.i .u8 (0 : Int)) (zl (AV.i .u8 (0 : Int))) T.e) (z1 (AV.i .u8 (2 : Int)) (zl (AV.i .u8 (0 : Int))) T.e))) (z1 (AObj.cells 5 5 [] (z1 (AV.i .u8 (3 : Int)) (z1 (AV.i .u8 (0 : Int)) (zl (AV.i .u8 (0 : Int))) T.e) (z1 (AV.i .u8 (2 : Int)) (zl (AV.i .u8 (0 : Int))) T.e))) (zl (AObj.cells 3 1 [AV.i .i64 (0 : Int)] (zl (AV.i .i64 (3 : Int))))) T.e) (zl (AObj.cells 202 1 [AV.p0] (zl (AV.p 4 0))))) (z1 (AObj.cells 5 0 [] T.e) (zl (AObj.cells 219 2 [] (z1 AV.lz (zl (AV.i .i64 (0 : Int))) T.e))) (zl (AObj.cells 97 5 [AV.i .i64 (0 : Int), AV.i .i64 (0 : Int), AV.i .i64 (0 : Int), AV.i .i64 (0 : Int), AV.i .i64 (0 : Int)] (z1 (AV.i .i64 (3 : Int)) (z1 (AV.i .i64 (0 : Int)) (zl (AV.i .i64 (0 : Int))) T.e) (z1 (AV.i .i64 (2 : Int)) (zl (AV.i .i64 (0 : Int))) T.e))))), next := 8, log := [0, 7, 6, 4, 4, 7, 6, 4, 4, 7, 6, 4, 4, 7, 6, 4, 4, 7, 6, 4, 4, 7, 6, 7, 6, 5, 5, 4, 3, 2, 1, 0] })
  Orc.z) := by kernel_rfl

theorem mo3_vc (K : Res → Orc → Prop) : runK Tryd.prog 1000000 (.call 112 [.s [3, 3, 2, 0, 0]] (mkH [])) (Orc.c (Orc.inl (Orc.inl (Orc.c (Orc.inl (Orc.inl (Orc.inl (Orc.inl (Orc.c
  (Orc.c (Orc.inl (Orc.inl (Orc.c (Orc.c (Orc.c (Orc.c (Orc.c (Orc.c (Orc.c (Orc.c (Orc.c (Orc.c (Orc.inl (Orc.inl (Orc.inl (Orc.c (Orc.c (Orc.inl (Orc.inl (Orc.c (Orc.c (Orc.c
  (Orc.c (Orc.c (Orc.c (Orc.c (Orc.c (Orc.c (Orc.c (Orc.inl (Orc.c (Orc.c (Orc.inl (Orc.inl (Orc.inl (Orc.c (Orc.c (Orc.inl (Orc.inl (Orc.c (Orc.c (Orc.c (Orc.c (Orc.c (Orc.c (Orc.c
  (Orc.c (Orc.c (Orc.c (Orc.inl (Orc.c (Orc.c (Orc.inl (Orc.inl (Orc.inl (Orc.c (Orc.c (Orc.inl (Orc.inl (Orc.c (Orc.c (Orc.c (Orc.c (Orc.c (Orc.c (Orc.c (Orc.c (Orc.c (Orc.c
  (Orc.inl (Orc.c (Orc.c (Orc.inl (Orc.inl (Orc.inl (Orc.c (Orc.c (Orc.inl (Orc.inl (Orc.c (Orc.c (Orc.c (Orc.c (Orc.c (Orc.c (Orc.c (Orc.c (Orc.c (Orc.c (Orc.inl (Orc.c (Orc.inl
  (Orc.c (Orc.c (Orc.c (Orc.inl (Orc.c (Orc.c (Orc.c (Orc.c (Orc.c (Orc.c (Orc.c
  Orc.z))))))))))))))))))))))))))))))))))))))))))))))))))))))))))))))))))))))))))))))))))))))))))))))))))))))))))))))))) K = (True ∧ True ∧ True ∧ True ∧ True ∧ True ∧
  ((-9223372036854775808 : Int) ≤ (3 : Int) ∧ (3 : Int) ≤ (9223372036854775807 : Int)) ∧ ((-9223372036854775808 : Int) ≤ (0 : Int) ∧ (0 : Int) ≤ (9223372036854775807 : Int)) ∧ (0 :
  Int) ≤ (0 : Int) ∧ True ∧ ((-9223372036854775808 : Int) ≤ (1 : Int) ∧ (1 : Int) ≤ (9223372036854775807 : Int)) ∧ True ∧ True ∧ True ∧ True ∧ True ∧ True ∧ True ∧ True ∧
  ((-9223372036854775808 : Int) ≤ (3 : Int) ∧ (3 : Int) ≤ (9223372036854775807 : Int)) ∧ ((-9223372036854775808 : Int) ≤ (0 : Int) ∧ (0 : Int) ≤ (9223372036854775807 : Int)) ∧ (0 :
  Int) ≤ (0 : Int) ∧ True ∧ ((-9223372036854775808 : Int) ≤ (1 : Int) ∧ (1 : Int) ≤ (9223372036854775807 : Int)) ∧ True ∧ True ∧ True ∧ True ∧ True ∧ True ∧ True ∧ True ∧
  ((-9223372036854775808 : Int) ≤ (2 : Int) ∧ (2 : Int) ≤ (9223372036854775807 : Int)) ∧ ((-9223372036854775808 : Int) ≤ (0 : Int) ∧ (0 : Int) ≤ (9223372036854775807 : Int)) ∧ (0 :
  Int) ≤ (0 : Int) ∧ True ∧ ((-9223372036854775808 : Int) ≤ (1 : Int) ∧ (1 : Int) ≤ (9223372036854775807 : Int)) ∧ True ∧ True ∧ True ∧ ((-9223372036854775808 : Int) ≤ (1 : Int) ∧
  (1 : Int) ≤ (9223372036854775807 : Int)) ∧ True ∧ True ∧ True ∧ True ∧ True ∧ ((-9223372036854775808 : Int) ≤ (0 : Int) ∧ (0 : Int) ≤ (9223372036854775807 : Int)) ∧
  ((-9223372036854775808 : Int) ≤ (0 : Int) ∧ (0 : Int) ≤ (9223372036854775807 : Int)) ∧ (0 : Int) ≤ (0 : Int) ∧ True ∧ ((-9223372036854775808 : Int) ≤ (1 : Int) ∧ (1 : Int) ≤
  (9223372036854775807 : Int)) ∧ True ∧ True ∧ True ∧ ((-9223372036854775808 : Int) ≤ (2 : Int) ∧ (2 : Int) ≤ (9223372036854775807 : Int)) ∧ True ∧ True ∧ True ∧ True ∧ True ∧
  ((-9223372036854775808 : Int) ≤ (0 : Int) ∧ (0 : Int) ≤ (9223372036854775807 : Int)) ∧ ((-9223372036854775808 : Int) ≤ (0 : Int) ∧ (0 : Int) ≤ (9223372036854775807 : Int)) ∧ (0 :
  Int) ≤ (0 : Int) ∧ True ∧ ((-9223372036854775808 : Int) ≤ (1 : Int) ∧ (1 : Int) ≤ (9223372036854775807 : Int)) ∧ True ∧ True ∧ True ∧ ((-9223372036854775808 : Int) ≤ (3 : Int) ∧
  (3 : Int) ≤ (9223372036854775807 : Int)) ∧ True ∧ True ∧ True ∧ True ∧ K (Res.rv (AV.agg [AV.i .i64 (3 : Int), AV.i .i64 (3 : Int), AV.i .i64 (2 : Int), AV.i .i64 (0 : Int), AV.i
  .i64 (0 : Int)]) { tree := z1 (AObj.cells 97 5 [AV.i .i64 (0 : Int), AV.i .i64 (0 : Int), AV.i .i64 (0 : Int), AV.i .i64 (0 : Int), AV.i .i64 (0 : Int)] (z1 (AV.i .i64 (3 : Int)) (z1 (AV.i .i64 (3 : Int)) (zl (AV.i .i64 (0 : Int))) T.e) (z1 (AV.i .i64 (2 : Int)) (zl (AV.i .i64 (0 : Int))) T.e))) (z1 (AObj.cells 5 5 [] (z1 (AV.i .u8 (3 : Int)) (z1 (AV.i .u8 (3 : Int)) (zl (AV.i .u8 (0 : Int))) T.e) (z1 (AV.i .u8 (2 : Int)) (zl (AV.i .u8 (0 : Int))) T.e))) (z1 (AObj.cells 5 5 [] (z1 (AV.i .u8 (3 : Int)) (z1 (AV.i .u8 (3 : Int)) (zl (AV.i .u8 (0 : Int))) T.e) (z1 (AV.i .u8 (2 : Int)) (zl (AV.i .u8 (0 : Int))) T.e))) (zl (AObj.cells 3 1 [AV.i .i64 (0 : Int)] (zl (AV.i .i64 (3 : Int))))) T.e) (zl (AObj.cells 202 1 [AV.p0] (zl (AV.p 4 0))))) (z1 (AObj.cells 5 0 [] T.e) (zl (AObj.cells 219 2 [] (z1 AV.lz (zl (AV.i .i64 (0 : Int))) T.e))) (zl (AObj.cells 97 5 [AV.i .i64 (0 : Int), AV.i .i64 (0 : Int), AV.i .i64 (0 : Int), AV.i .i64 (0 : Int), AV.i .i64 (0 : Int)] (z1 (AV.i .i64 (3 : Int)) (z1 (AV.i .i64 (3 : Int)) (zl (AV.i .i64 (0 : Int))) T.e) (z1 (AV.i .i64 (2 : Int)) (zl (AV.i .i64 (0 : Int))) T.e))))), next := 8, log := [0, 7, 6, 4, 4, 7, 6, 4, 4, 7, 6, 4, 4, 7, 6, 4, 4, 7, 6, 4, 4, 7, 6, 7, 6, 5, 5, 4, 3, 2, 1, 0] })
  Orc.z) := by kernel_rfl

theorem mt0_vc (K : Res → Orc → Prop) : runK Tryd.prog 1000000 (.call 132 [.agg [.i .i64 0, .i .i64 0, .i .i64 2, .i .i64 0, .i .i64 0]] (mkH [])) (Orc.c (Orc.inl (Orc.inl (Orc.inl
  (Orc.c (Orc.inl (Orc.c (Orc.inl (Orc.c (Orc.c (Orc.c (Orc.c (Orc.c (Orc.c (Orc.c (Orc.c (Orc.c (Orc.c (Orc.c (Orc.c (Orc.c (Orc.c (Orc.c (Orc.inl (Orc.c (Orc.c (Orc.c (Orc.c
  (Orc.c (Orc.c (Orc.c (Orc.inl (Orc.inl (Orc.c (Orc.inl (Orc.c (Orc.inl (Orc.c (Orc.c (Orc.c (Orc.c (Orc.c (Orc.c (Orc.c (Orc.c (Orc.c (Orc.c (Orc.c (Orc.c (Orc.c (Orc.c (Orc.c
  (Orc.inl (Orc.c (Orc.c (Orc.inl (Orc.inl (Orc.c (Orc.inl (Orc.c (Orc.inl (Orc.c (Orc.c (Orc.c (Orc.c (Orc.c (Orc.c (Orc.c (Orc.c (Orc.c (Orc.c (Orc.c (Orc.c (Orc.c (Orc.c (Orc.c
  (Orc.inl (Orc.c (Orc.c (Orc.inl (Orc.inl (Orc.c (Orc.inl (Orc.c (Orc.inl (Orc.c (Orc.c (Orc.c (Orc.c (Orc.c (Orc.c (Orc.c (Orc.c (Orc.c (Orc.c (Orc.c (Orc.c (Orc.c (Orc.c (Orc.c
  (Orc.inl (Orc.c (Orc.c (Orc.inl (Orc.inl (Orc.c (Orc.inl (Orc.c (Orc.inl (Orc.c (Orc.c (Orc.c (Orc.c (Orc.c (Orc.c (Orc.c (Orc.c (Orc.c (Orc.c (Orc.c (Orc.c (Orc.c (Orc.c (Orc.c
  (Orc.inl (Orc.c (Orc.inl (Orc.c (Orc.c (Orc.c (Orc.c (Orc.c (Orc.c (Orc.c (Orc.inl (Orc.c
  Orc.z)))))))))))))))))))))))))))))))))))))))))))))))))))))))))))))))))))))))))))))))))))))))))))))))))))))))))))))))))))))))))))))))))))))))) K = (True ∧ True ∧ True ∧ True ∧ True
  ∧ True ∧ True ∧ True ∧ True ∧ True ∧ True ∧ True ∧ True ∧ True ∧ True ∧ ((-9223372036854775808 : Int) ≤ (1 : Int) ∧ (1 : Int) ≤ (9223372036854775807 : Int)) ∧ True ∧ True ∧ True ∧
  True ∧ True ∧ True ∧ True ∧ True ∧ True ∧ True ∧ True ∧ True ∧ True ∧ True ∧ ((-9223372036854775808 : Int) ≤ (2 : Int) ∧ (2 : Int) ≤ (9223372036854775807 : Int)) ∧ True ∧ True ∧
  True ∧ True ∧ True ∧ True ∧ True ∧ True ∧ True ∧ True ∧ True ∧ True ∧ True ∧ True ∧ ((-9223372036854775808 : Int) ≤ (3 : Int) ∧ (3 : Int) ≤ (9223372036854775807 : Int)) ∧ True ∧
  ((-9223372036854775808 : Int) ≤ (1 : Int) ∧ (1 : Int) ≤ (9223372036854775807 : Int)) ∧ True ∧ True ∧ True ∧ True ∧ True ∧ True ∧ True ∧ True ∧ True ∧ True ∧ True ∧ True ∧ True ∧
  ((-9223372036854775808 : Int) ≤ (4 : Int) ∧ (4 : Int) ≤ (9223372036854775807 : Int)) ∧ True ∧ ((-9223372036854775808 : Int) ≤ (2 : Int) ∧ (2 : Int) ≤ (9223372036854775807 : Int))
  ∧ True ∧ True ∧ True ∧ True ∧ True ∧ True ∧ True ∧ True ∧ True ∧ True ∧ True ∧ True ∧ True ∧ ((-9223372036854775808 : Int) ≤ (5 : Int) ∧ (5 : Int) ≤ (9223372036854775807 : Int)) ∧
  True ∧ ((-9223372036854775808 : Int) ≤ (3 : Int) ∧ (3 : Int) ≤ (9223372036854775807 : Int)) ∧ True ∧ True ∧ True ∧ True ∧ True ∧ True ∧ True ∧ K (Res.rv (AV.s [0, 0, 2, 0, 0]) { tree := z1 (AObj.cells 97 5 [] (z1 (AV.i .i64 (0 : Int)) (z1 (AV.i .i64 (0 : Int)) (zl (AV.i .i64 (0 : Int))) T.e) (z1 (AV.i .i64 (2 : Int)) (zl (AV.i .i64 (0 : Int))) T.e))) (z1 (AObj.cells 200 2 [AV.p0, AV.i .i64 (0 : Int)] (z1 (AV.p 2 0) (zl (AV.i .i64 (5 : Int))) T.e)) (z1 (AObj.cells 5 1 [] (zl (AV.i .u8 (0 : Int)))) (zl (AObj.cells 5 1 [] (zl (AV.i .u8 (2 : Int))))) (zl (AObj.cells 5 1 [] (zl (AV.i .u8 (0 : Int)))))) (z1 (AObj.cells 5 1 [] (zl (AV.i .u8 (0 : Int)))) (zl (AObj.cells 5 1 [] (zl (AV.i .u8 (0 : Int))))) (zl (AObj.cells 5 0 [] T.e)))) (z1 (AObj.cells 217 1 [] (zl (AV.l 12 0 5 5 1 false))) (z0 (z0 T.e T.e) (zl (AObj.cells 5 5 [] (z1 (AV.i .u8 (0 : Int)) (z1 (AV.i .u8 (0 : Int)) (zl (AV.i .u8 (0 : Int))) T.e) (z1 (AV.i .u8 (2 : Int)) (zl (AV.i .u8 (0 : Int))) T.e))))) (z0 (z0 T.e T.e) (zl (AObj.cells 5 5 [] (z1 (AV.i .u8 (0 : Int)) (z1 (AV.i .u8 (0 : Int)) (zl (AV.i .u8 (0 : Int))) T.e) (z1 (AV.i .u8 (2 : Int)) (zl (AV.i .u8 (0 : Int))) T.e)))))), next := 15, log := [14, 13, 1, 2, 12, 10, 11, 1, 2, 10, 8, 9, 1, 2, 8, 6, 7, 1, 2, 6, 4, 5, 1, 2, 4, 3, 1, 2, 1, 0] })
  Orc.z) := by kernel_rfl

theorem mt1_vc (K : Res → Orc → Prop) : runK Tryd.prog 1000000 (.call 132 [.agg [.i .i64 3, .i .i64 0, .i .i64 2, .i .i64 0, .i .i64 0]] (mkH [])) (Orc.c (Orc.inl (Orc.inl (Orc.inl
  (Orc.c (Orc.inl (Orc.c (Orc.inl (Orc.c (Orc.c (Orc.c (Orc.c (Orc.c (Orc.c (Orc.c (Orc.c (Orc.c (Orc.c (Orc.c (Orc.c (Orc.c (Orc.c (Orc.c (Orc.inl (Orc.c (Orc.c (Orc.c (Orc.c
  (Orc.c (Orc.c (Orc.c (Orc.inl (Orc.inl (Orc.c (Orc.inl (Orc.c (Orc.inl (Orc.c (Orc.c (Orc.c (Orc.c (Orc.c (Orc.c (Orc.c (Orc.c (Orc.c (Orc.c (Orc.c (Orc.c (Orc.c (Orc.c (Orc.c
  (Orc.inl (Orc.c (Orc.c (Orc.inl (Orc.inl (Orc.c (Orc.inl (Orc.c (Orc.inl (Orc.c (Orc.c (Orc.c (Orc.c (Orc.c (Orc.c (Orc.c (Orc.c (Orc.c (Orc.c (Orc.c (Orc.c (Orc.c (Orc.c (Orc.c
  (Orc.inl (Orc.c (Orc.c (Orc.inl (Orc.inl (Orc.c (Orc.inl (Orc.c (Orc.inl (Orc.c (Orc.c (Orc.c (Orc.c (Orc.c (Orc.c (Orc.c (Orc.c (Orc.c (Orc.c (Orc.c (Orc.c (Orc.c (Orc.c (Orc.c
  (Orc.inl (Orc.c (Orc.c (Orc.inl (Orc.inl (Orc.c (Orc.inl (Orc.c (Orc.inl (Orc.c (Orc.c (Orc.c (Orc.c (Orc.c (Orc.c (Orc.c (Orc.c (Orc.c (Orc.c (Orc.c (Orc.c (Orc.c (Orc.c (Orc.c
  (Orc.inl (Orc.c (Orc.inl (Orc.c (Orc.c (Orc.c (Orc.c (Orc.c (Orc.c (Orc.c (Orc.inl (Orc.c
  Orc.z)))))))))))))))))))))))))))))))))))))))))))))))))))))))))))))))))))))))))))))))))))))))))))))))))))))))))))))))))))))))))))))))))))))))) K = (True ∧ True ∧ True ∧ True ∧ True
  ∧ True ∧ True ∧ True ∧ True ∧ True ∧ True ∧ True ∧ True ∧ True ∧ True ∧ ((-9223372036854775808 : Int) ≤ (1 : Int) ∧ (1 : Int) ≤ (9223372036854775807 : Int)) ∧ True ∧ True ∧ True ∧
  True ∧ True ∧ True ∧ True ∧ True ∧ True ∧ True ∧ True ∧ True ∧ True ∧ True ∧ ((-9223372036854775808 : Int) ≤ (2 : Int) ∧ (2 : Int) ≤ (9223372036854775807 : Int)) ∧ True ∧ True ∧
  True ∧ True ∧ True ∧ True ∧ True ∧ True ∧ True ∧ True ∧ True ∧ True ∧ True ∧ True ∧ ((-9223372036854775808 : Int) ≤ (3 : Int) ∧ (3 : Int) ≤ (9223372036854775807 : Int)) ∧ True ∧
  ((-9223372036854775808 : Int) ≤ (1 : Int) ∧ (1 : Int) ≤ (9223372036854775807 : Int)) ∧ True ∧ True ∧ True ∧ True ∧ True ∧ True ∧ True ∧ True ∧ True ∧ True ∧ True ∧ True ∧ True ∧
  ((-9223372036854775808 : Int) ≤ (4 : Int) ∧ (4 : Int) ≤ (9223372036854775807 : Int)) ∧ True ∧ ((-9223372036854775808 : Int) ≤ (2 : Int) ∧ (2 : Int) ≤ (9223372036854775807 : Int))
  ∧ True ∧ True ∧ True ∧ True ∧ True ∧ True ∧ True ∧ True ∧ True ∧ True ∧ True ∧ True ∧ True ∧ ((-9223372036854775808 : Int) ≤ (5 : Int) ∧ (5 : Int) ≤ (9223372036854775807 : Int)) ∧
  True ∧ ((-9223372036854775808 : Int) ≤ (3 : Int) ∧ (3 : Int) ≤ (9223372036854775807 : Int)) ∧ True ∧ True ∧ True ∧ True ∧ True ∧ True ∧ True ∧ K (Res.rv (AV.s [3, 0, 2, 0, 0]) { tree := z1 (AObj.cells 97 5 [] (z1 (AV.i .i64 (3 : Int)) (z1 (AV.i .i64 (0 : Int)) (zl (AV.i .i64 (0 : Int))) T.e) (z1 (AV.i .i64 (2 : Int)) (zl (AV.i .i64 (0 : Int))) T.e))) (z1 (AObj.cells 200 2 [AV.p0, AV.i .i64 (0 : Int)] (z1 (AV.p 2 0) (zl (AV.i .i64 (5 : Int))) T.e)) (z1 (AObj.cells 5 1 [] (zl (AV.i .u8 (3 : Int)))) (zl (AObj.cells 5 1 [] (zl (AV.i .u8 (2 : Int))))) (zl (AObj.cells 5 1 [] (zl (AV.i .u8 (0 : Int)))))) (z1 (AObj.cells 5 1 [] (zl (AV.i .u8 (0 : Int)))) (zl (AObj.cells 5 1 [] (zl (AV.i .u8 (0 : Int))))) (zl (AObj.cells 5 0 [] T.e)))) (z1 (AObj.cells 217 1 [] (zl (AV.l 12 0 5 5 1 false))) (z0 (z0 T.e T.e) (zl (AObj.cells 5 5 [] (z1 (AV.i .u8 (3 : Int)) (z1 (AV.i .u8 (0 : Int)) (zl (AV.i .u8 (0 : Int))) T.e) (z1 (AV.i .u8 (2 : Int)) (zl (AV.i .u8 (0 : Int))) T.e))))) (z0 (z0 T.e T.e) (zl (AObj.cells 5 5 [] (z1 (AV.i .u8 (3 : Int)) (z1 (AV.i .u8 (0 : Int)) (zl (AV.i .u8 (0 : Int))) T.e) (z1 (AV.i .u8 (2 : Int)) (zl (AV.i .u8 (0 : Int))) T.e)))))), next := 15, log := [14, 13, 1, 2, 12, 10, 11, 1, 2, 10, 8, 9, 1, 2, 8, 6, 7, 1, 2, 6, 4, 5, 1, 2, 4, 3, 1, 2, 1, 0] })
  Orc.z) := by kernel_rfl

theorem mt2_vc (K : Res → Orc → Prop) : runK Tryd.prog 1000000 (.call 132 [.agg [.i .i64 3, .i .i64 3, .i .i64 2, .i .i64 0, .i .i64 0]] (mkH [])) (Orc.c (Orc.inl (Orc.inl (Orc.inl
  (Orc.c (Orc.inl (Orc.c (Orc.inl (Orc.c (Orc.c (Orc.c (Orc.c (Orc.c (Orc.c (Orc.c (Orc.c (Orc.c (Orc.c (Orc.c (Orc.c (Orc.c (Orc.c (Orc.c (Orc.inl (Orc.c (Orc.c (Orc.c (Orc.c
  (Orc.c (Orc.c (Orc.c (Orc.inl (Orc.inl (Orc.c (Orc.inl (Orc.c (Orc.inl (Orc.c (Orc.c (Orc.c (Orc.c (Orc.c (Orc.c (Orc.c (Orc.c (Orc.c (Orc.c (Orc.c (Orc.c (Orc.c (Orc.c (Orc.c
  (Orc.inl (Orc.c (Orc.c (Orc.inl (Orc.inl (Orc.c (Orc.inl (Orc.c (Orc.inl (Orc.c (Orc.c (Orc.c (Orc.c (Orc.c (Orc.c (Orc.c (Orc.c (Orc.c (Orc.c (Orc.c (Orc.c (Orc.c (Orc.c (Orc.c
  (Orc.inl (Orc.c (Orc.c (Orc.inl (Orc.inl (Orc.c (Orc.inl (Orc.c (Orc.inl (Orc.c (Orc.c (Orc.c (Orc.c (Orc.c (Orc.c (Orc.c (Orc.c (Orc.c (Orc.c (Orc.c (Orc.c (Orc.c (Orc.c (Orc.c
  (Orc.inl (Orc.c (Orc.c (Orc.inl (Orc.inl (Orc.c (Orc.inl (Orc.c (Orc.inl (Orc.c (Orc.c (Orc.c (Orc.c (Orc.c (Orc.c (Orc.c (Orc.c (Orc.c (Orc.c (Orc.c (Orc.c (Orc.c (Orc.c (Orc.c
  (Orc.inl (Orc.c (Orc.inl (Orc.c (Orc.c (Orc.c (Orc.c (Orc.c (Orc.c (Orc.c (Orc.inl (Orc.c
  Orc.z)))))))))))))))))))))))))))))))))))))))))))))))))))))))))))))))))))))))))))))))))))))))))))))))))))))))))))))))))))))))))))))))))))))))) K = (True ∧ True ∧ True ∧ True ∧ True
  ∧ True ∧ True ∧ True ∧ True ∧ True ∧ True ∧ True ∧ True ∧ True ∧ True ∧ ((-9223372036854775808 : Int) ≤ (1 : Int) ∧ (1 : Int) ≤ (9223372036854775807 : Int)) ∧ True ∧ True ∧ True ∧
  True ∧ True ∧ True ∧ True ∧ True ∧ True ∧ True ∧ True ∧ True ∧ True ∧ True ∧ ((-9223372036854775808 : Int) ≤ (2 : Int) ∧ (2 : Int) ≤ (9223372036854775807 : Int)) ∧ True ∧ True ∧
  True ∧ True ∧ True ∧ True ∧ True ∧ True ∧ True ∧ True ∧ True ∧ True ∧ True ∧ True ∧ ((-9223372036854775808 : Int) ≤ (3 : Int) ∧ (3 : Int) ≤ (9223372036854775807 : Int)) ∧ True ∧
  ((-9223372036854775808 : Int) ≤ (1 : Int) ∧ (1 : Int) ≤ (9223372036854775807 : Int)) ∧ True ∧ True ∧ True ∧ True ∧ True ∧ True ∧ True ∧ True ∧ True ∧ True ∧ True ∧ True ∧ True ∧
  ((-9223372036854775808 : Int) ≤ (4 : Int) ∧ (4 : Int) ≤ (9223372036854775807 : Int)) ∧ True ∧ ((-9223372036854775808 : Int) ≤ (2 : Int) ∧ (2 : Int) ≤ (9223372036854775807 : Int))
  ∧ True ∧ True ∧ True ∧ True ∧ True ∧ True ∧ True ∧ True ∧ True ∧ True ∧ True ∧ True ∧ True ∧ ((-9223372036854775808 : Int) ≤ (5 : Int) ∧ (5 : Int) ≤ (9223372036854775807 : Int)) ∧
  True ∧ ((-9223372036854775808 : Int) ≤ (3 : Int) ∧ (3 : Int) ≤ (9223372036854775807 : Int)) ∧ True ∧ True ∧ True ∧ True ∧ True ∧ True ∧ True ∧ K (Res.rv (AV.s [3, 3, 2, 0, 0]) { tree := z1 (AObj.cells 97 5 [] (z1 (AV.i .i64 (3 : Int)) (z1 (AV.i .i64 (3 : Int)) (zl (AV.i .i64 (0 : Int))) T.e) (z1 (AV.i .i64 (2 : Int)) (zl (AV.i .i64 (0 : Int))) T.e))) (z1 (AObj.cells 200 2 [AV.p0, AV.i .i64 (0 : Int)] (z1 (AV.p 2 0) (zl (AV.i .i64 (5 : Int))) T.e)) (z1 (AObj.cells 5 1 [] (zl (AV.i .u8 (3 : Int)))) (zl (AObj.cells 5 1 [] (zl (AV.i .u8 (2 : Int))))) (zl (AObj.cells 5 1 [] (zl (AV.i .u8 (0 : Int)))))) (z1 (AObj.cells 5 1 [] (zl (AV.i .u8 (3 : Int)))) (zl (AObj.cells 5 1 [] (zl (AV.i .u8 (0 : Int))))) (zl (AObj.cells 5 0 [] T.e)))) (z1 (AObj.cells 217 1 [] (zl (AV.l 12 0 5 5 1 false))) (z0 (z0 T.e T.e) (zl (AObj.cells 5 5 [] (z1 (AV.i .u8 (3 : Int)) (z1 (AV.i .u8 (3 : Int)) (zl (AV.i .u8 (0 : Int))) T.e) (z1 (AV.i .u8 (2 : Int)) (zl (AV.i .u8 (0 : Int))) T.e))))) (z0 (z0 T.e T.e) (zl (AObj.cells 5 5 [] (z1 (AV.i .u8 (3 : Int)) (z1 (AV.i .u8 (3 : Int)) (zl (AV.i .u8 (0 : Int))) T.e) (z1 (AV.i .u8 (2 : Int)) (zl (AV.i .u8 (0 : Int))) T.e)))))), next := 15, log := [14, 13, 1, 2, 12, 10, 11, 1, 2, 10, 8, 9, 1, 2, 8, 6, 7, 1, 2, 6, 4, 5, 1, 2, 4, 3, 1, 2, 1, 0] })
  Orc.z) := by kernel_rfl

theorem bo0_con : Con Tryd.prog 111 [.s []] [] (.agg [.i .i64 0, .s []]) [] :=
  con_plain rfl ((bo0_vc _).mpr (by repeat' first | exact trivial | exact ⟨_, _, rfl, rfl⟩ | apply And.intro | decide))
theorem bo1_con : Con Tryd.prog 111 [.s [1, 97]] [] (.agg [.i .i64 1, .s [97]]) [] :=
  con_plain rfl ((bo1_vc _).mpr (by repeat' first | exact trivial | exact ⟨_, _, rfl, rfl⟩ | apply And.intro | decide))
theorem bo2_con : Con Tryd.prog 111 [.s [5, 98]] [] (.agg [.i .i64 5, .s [98]]) [] :=
  con_plain rfl ((bo2_vc _).mpr (by repeat' first | exact trivial | exact ⟨_, _, rfl, rfl⟩ | apply And.intro | decide))
theorem bo3_con : Con Tryd.prog 111 [.s [6, 99]] [] (.agg [.i .i64 6, .s [99]]) [] :=
  con_plain rfl ((bo3_vc _).mpr (by repeat' first | exact trivial | exact ⟨_, _, rfl, rfl⟩ | apply And.intro | decide))
theorem bo4_con : Con Tryd.prog 111 [.s [2, 122]] [] (.agg [.i .i64 2, .s [122]]) [] :=
  con_plain rfl ((bo4_vc _).mpr (by repeat' first | exact trivial | exact ⟨_, _, rfl, rfl⟩ | apply And.intro | decide))
theorem bt0_con : Con Tryd.prog 104 [.agg [.i .i64 1, .s [97]]] [] (.s [1, 97]) [] :=
  con_plain rfl ((bt0_vc _).mpr (by repeat' first | exact trivial | exact ⟨_, _, rfl, rfl⟩ | apply And.intro | decide))
theorem bt1_con : Con Tryd.prog 104 [.agg [.i .i64 5, .s [98]]] [] (.s [5, 98]) [] :=
  con_plain rfl ((bt1_vc _).mpr (by repeat' first | exact trivial | exact ⟨_, _, rfl, rfl⟩ | apply And.intro | decide))
theorem bt2_con : Con Tryd.prog 104 [.agg [.i .i64 6, .s [99]]] [] (.s [6, 99]) [] :=
  con_plain rfl ((bt2_vc _).mpr (by repeat' first | exact trivial | exact ⟨_, _, rfl, rfl⟩ | apply And.intro | decide))
theorem bt3_con : Con Tryd.prog 104 [.agg [.i .i64 2, .s [122]]] [] (.s [2, 122]) [] :=
  con_plain rfl ((bt3_vc _).mpr (by repeat' first | exact trivial | exact ⟨_, _, rfl, rfl⟩ | apply And.intro | decide))
theorem mo0_con : Con Tryd.prog 112 [.s []] [] (.agg [.i .i64 0, .i .i64 0, .i .i64 0, .i .i64 0, .i .i64 0]) [] :=
  con_plain rfl ((mo0_vc _).mpr (by repeat' first | exact trivial | exact ⟨_, _, rfl, rfl⟩ | apply And.intro | decide))
theorem mo1_con : Con Tryd.prog 112 [.s [0, 0, 2, 0, 0]] [] (.agg [.i .i64 0, .i .i64 0, .i .i64 2, .i .i64 0, .i .i64 0]) [] :=
  con_plain rfl ((mo1_vc _).mpr (by repeat' first | exact trivial | exact ⟨_, _, rfl, rfl⟩ | apply And.intro | decide))
theorem mo2_con : Con Tryd.prog 112 [.s [3, 0, 2, 0, 0]] [] (.agg [.i .i64 3, .i .i64 0, .i .i64 2, .i .i64 0, .i .i64 0]) [] :=
  con_plain rfl ((mo2_vc _).mpr (by repeat' first | exact trivial | exact ⟨_, _, rfl, rfl⟩ | apply And.intro | decide))
theorem mo3_con : Con Tryd.prog 112 [.s [3, 3, 2, 0, 0]] [] (.agg [.i .i64 3, .i .i64 3, .i .i64 2, .i .i64 0, .i .i64 0]) [] :=
  con_plain rfl ((mo3_vc _).mpr (by repeat' first | exact trivial | exact ⟨_, _, rfl, rfl⟩ | apply And.intro | decide))
theorem mt0_con : Con Tryd.prog 132 [.agg [.i .i64 0, .i .i64 0, .i .i64 2, .i .i64 0, .i .i64 0]] [] (.s [0, 0, 2, 0, 0]) [] :=
  con_plain rfl ((mt0_vc _).mpr (by repeat' first | exact trivial | exact ⟨_, _, rfl, rfl⟩ | apply And.intro | decide))
theorem mt1_con : Con Tryd.prog 132 [.agg [.i .i64 3, .i .i64 0, .i .i64 2, .i .i64 0, .i .i64 0]] [] (.s [3, 0, 2, 0, 0]) [] :=
  con_plain rfl ((mt1_vc _).mpr (by repeat' first | exact trivial | exact ⟨_, _, rfl, rfl⟩ | apply And.intro | decide))
theorem mt2_con : Con Tryd.prog 132 [.agg [.i .i64 3, .i .i64 3, .i .i64 2, .i .i64 0, .i .i64 0]] [] (.s [3, 3, 2, 0, 0]) [] :=
  con_plain rfl ((mt2_vc _).mpr (by repeat' first | exact trivial | exact ⟨_, _, rfl, rfl⟩ | apply And.intro | decide))

end Go.Proofs.Cl

set_option maxRecDepth 20000
namespace Go.Proofs.Cl
open Go Go.Sim Go.Proofs Go.Proofs.Cd Go.Proofs.St Go.Proofs.YtfbnaflnaancbaaDoor
theorem rawake_vc (nk0 nk1 nk2 nk3 nk4 nk5 nk6 nk7 : CS) (nw0 nw1 nw2 nw3 nw4 nw5 nw6 nw7 : SS) (K : Res → Orc → Prop) : runK Tryd.prog 1000000 (.call 52 [] (mkH [])) (Orc.inl
  (Orc.cal [] (AV.tup [AV.p 0 0, AV.i .i64 (0 : Int)]) [Upd.set (SS.o nw0)] (Orc.cal [0] (AV.tup [AV.p 1 0, AV.i .i64 (0 : Int)]) [Upd.keep, Upd.set (CS.roa nk0 false)] (Orc.c
  (Orc.c (Orc.c (Orc.inl (Orc.c (Orc.c (Orc.inl (Orc.inl (Orc.c (Orc.c (Orc.c (Orc.c (Orc.c (Orc.c (Orc.c (Orc.cal [1, 0] (AV.agg [AV.i .i64 (0 : Int), AV.s []]) [Upd.keep,
  Upd.keep] (Orc.cal [] (AV.agg [AV.i .i64 (0 : Int), AV.s []]) [] (Orc.c (Orc.c (Orc.c (Orc.c (Orc.c (Orc.c (Orc.inl (Orc.inl (Orc.inl (Orc.c (Orc.c (Orc.c (Orc.c (Orc.c (Orc.c
  (Orc.inl (Orc.inl (Orc.c (Orc.c (Orc.c (Orc.c (Orc.c (Orc.c (Orc.c (Orc.c (Orc.c (Orc.c (Orc.c (Orc.c (Orc.inl (Orc.inl (Orc.c (Orc.c (Orc.c (Orc.c (Orc.c (Orc.c (Orc.c (Orc.inl
  (Orc.inl (Orc.c (Orc.c (Orc.c (Orc.c (Orc.c (Orc.inl (Orc.c (Orc.c (Orc.c (Orc.c (Orc.inl (Orc.c (Orc.cal [1, 0] (AV.agg [AV.i .i64 (0 : Int), AV.s []]) [Upd.keep, Upd.keep]
  (Orc.cal [] (AV.agg [AV.i .i64 (0 : Int), AV.i .i64 (0 : Int), AV.i .i64 (0 : Int), AV.i .i64 (0 : Int), AV.i .i64 (0 : Int)]) [] (Orc.c (Orc.c (Orc.inl (Orc.c (Orc.c (Orc.inl
  (Orc.inl (Orc.c (Orc.c (Orc.c (Orc.c (Orc.c (Orc.c (Orc.c (Orc.cal [1, 0] (AV.agg [AV.i .i64 (0 : Int), AV.s []]) [Upd.keep, Upd.keep] (Orc.cal [] (AV.agg [AV.i .i64 (0 : Int),
  AV.s []]) [] (Orc.c (Orc.c (Orc.cal [] (AV.s [1, 97]) [] (Orc.cal [1, 0] (AV.i .i64 (0 : Int)) [Upd.set (CS.ro nk1 false), Upd.set (SS.o nw1)] (Orc.c (Orc.c (Orc.c (Orc.c (Orc.cal
  [0] (AV.i .i64 (1 : Int)) [Upd.keep] (Orc.c (Orc.c (Orc.c (Orc.c (Orc.c (Orc.inl (Orc.inl (Orc.inl (Orc.c (Orc.c (Orc.c (Orc.c (Orc.c (Orc.c (Orc.inl (Orc.inl (Orc.c (Orc.c (Orc.c
  (Orc.c (Orc.c (Orc.c (Orc.c (Orc.c (Orc.c (Orc.c (Orc.c (Orc.c (Orc.inl (Orc.inl (Orc.c (Orc.c (Orc.c (Orc.c (Orc.c (Orc.c (Orc.c (Orc.inl (Orc.inl (Orc.c (Orc.c (Orc.c (Orc.c
  (Orc.c (Orc.inl (Orc.c (Orc.c (Orc.c (Orc.c (Orc.inl (Orc.c (Orc.cal [1, 0] (AV.agg [AV.i .i64 (0 : Int), AV.s []]) [Upd.keep, Upd.keep] (Orc.cal [] (AV.agg [AV.i .i64 (0 : Int),
  AV.i .i64 (0 : Int), AV.i .i64 (0 : Int), AV.i .i64 (0 : Int), AV.i .i64 (0 : Int)]) [] (Orc.c (Orc.c (Orc.inl (Orc.c (Orc.c (Orc.inl (Orc.inl (Orc.c (Orc.c (Orc.c (Orc.c (Orc.c
  (Orc.c (Orc.c (Orc.cal [1, 0] (AV.agg [AV.i .i64 (1 : Int), AV.s [1, 97]]) [Upd.keep, Upd.keep] (Orc.cal [] (AV.agg [AV.i .i64 (1 : Int), AV.s [97]]) [] (Orc.c (Orc.c (Orc.c
  (Orc.c (Orc.c (Orc.cal [0] (AV.i .i64 (1 : Int)) [Upd.keep] (Orc.c (Orc.c (Orc.c (Orc.inl (Orc.inl (Orc.inl (Orc.c (Orc.c (Orc.c (Orc.c (Orc.c (Orc.c (Orc.inl (Orc.inl (Orc.c
  (Orc.c (Orc.c (Orc.c (Orc.c (Orc.c (Orc.c (Orc.c (Orc.c (Orc.c (Orc.c (Orc.c (Orc.inl (Orc.inl (Orc.c (Orc.c (Orc.c (Orc.c (Orc.c (Orc.c (Orc.c (Orc.inl (Orc.inl (Orc.c (Orc.c
  (Orc.c (Orc.c (Orc.c (Orc.inl (Orc.c (Orc.c (Orc.c (Orc.c (Orc.inl (Orc.c (Orc.cal [1, 0] (AV.agg [AV.i .i64 (0 : Int), AV.s []]) [Upd.keep, Upd.keep] (Orc.cal [] (AV.agg [AV.i
  .i64 (0 : Int), AV.i .i64 (0 : Int), AV.i .i64 (0 : Int), AV.i .i64 (0 : Int), AV.i .i64 (0 : Int)]) [] (Orc.c (Orc.c (Orc.inl (Orc.c (Orc.c (Orc.inl (Orc.inl (Orc.c (Orc.c (Orc.c
  (Orc.c (Orc.c (Orc.c (Orc.c (Orc.cal [1, 0] (AV.agg [AV.i .i64 (1 : Int), AV.s [1, 97]]) [Upd.keep, Upd.keep] (Orc.cal [] (AV.agg [AV.i .i64 (1 : Int), AV.s [97]]) [] (Orc.c
  (Orc.c (Orc.c (Orc.c (Orc.c (Orc.inl (Orc.inl (Orc.inl (Orc.c (Orc.c (Orc.c (Orc.c (Orc.c (Orc.c (Orc.inl (Orc.inl (Orc.c (Orc.c (Orc.c (Orc.c (Orc.c (Orc.c (Orc.c (Orc.c (Orc.c
  (Orc.c (Orc.c (Orc.c (Orc.inl (Orc.inl (Orc.c (Orc.c (Orc.c (Orc.c (Orc.c (Orc.c (Orc.c (Orc.inl (Orc.inl (Orc.c (Orc.c (Orc.c (Orc.c (Orc.c (Orc.inl (Orc.c (Orc.c (Orc.c (Orc.c
  (Orc.inl (Orc.c (Orc.cal [1, 0] (AV.agg [AV.i .i64 (0 : Int), AV.s []]) [Upd.keep, Upd.keep] (Orc.cal [] (AV.agg [AV.i .i64 (0 : Int), AV.i .i64 (0 : Int), AV.i .i64 (0 : Int),
  AV.i .i64 (0 : Int), AV.i .i64 (0 : Int)]) [] (Orc.c (Orc.c (Orc.inl (Orc.c (Orc.c (Orc.inl (Orc.inl (Orc.c (Orc.c (Orc.c (Orc.c (Orc.c (Orc.c (Orc.c (Orc.cal [1, 0] (AV.agg [AV.i
  .i64 (1 : Int), AV.s [1, 97]]) [Upd.keep, Upd.keep] (Orc.cal [] (AV.agg [AV.i .i64 (1 : Int), AV.s [97]]) [] (Orc.c (Orc.c (Orc.cal [] (AV.s [5, 98]) [] (Orc.cal [1, 0] (AV.i .i64
  (0 : Int)) [Upd.set (CS.ro nk2 false), Upd.set (SS.o nw2)] (Orc.c (Orc.c (Orc.c (Orc.c (Orc.inl (Orc.inl (Orc.inl (Orc.c (Orc.c (Orc.c (Orc.c (Orc.c (Orc.c (Orc.inl (Orc.inl
  (Orc.c (Orc.c (Orc.c (Orc.c (Orc.c (Orc.inl (Orc.c (Orc.c (Orc.c (Orc.c (Orc.inl (Orc.inl (Orc.c (Orc.cal [1, 0] (AV.agg [AV.i .i64 (0 : Int), AV.s []]) [Upd.keep, Upd.keep]
  (Orc.cal [] (AV.agg [AV.i .i64 (0 : Int), AV.i .i64 (0 : Int), AV.i .i64 (0 : Int), AV.i .i64 (0 : Int), AV.i .i64 (0 : Int)]) [] (Orc.inl (Orc.c (Orc.c (Orc.c (Orc.cal [] (AV.s
  [0, 0, 2, 0, 0]) [] (Orc.cal [1, 0] (AV.i .i64 (0 : Int)) [Upd.set (CS.ro nk3 false), Upd.set (SS.o nw3)] (Orc.c (Orc.c (Orc.c (Orc.c (Orc.c (Orc.inl (Orc.inl (Orc.inl (Orc.c
  (Orc.c (Orc.c (Orc.c (Orc.c (Orc.c (Orc.inl (Orc.inl (Orc.c (Orc.c (Orc.c (Orc.c (Orc.c (Orc.c (Orc.c (Orc.c (Orc.c (Orc.c (Orc.c (Orc.c (Orc.inl (Orc.inl (Orc.c (Orc.c (Orc.c
  (Orc.c (Orc.c (Orc.c (Orc.c (Orc.inl (Orc.inl (Orc.c (Orc.c (Orc.c (Orc.c (Orc.c (Orc.inl (Orc.c (Orc.c (Orc.c (Orc.c (Orc.inl (Orc.c (Orc.cal [1, 0] (AV.agg [AV.i .i64 (1 : Int),
  AV.s [0, 0, 2, 0, 0]]) [Upd.keep, Upd.keep] (Orc.cal [] (AV.agg [AV.i .i64 (0 : Int), AV.i .i64 (0 : Int), AV.i .i64 (2 : Int), AV.i .i64 (0 : Int), AV.i .i64 (0 : Int)]) []
  (Orc.c (Orc.c (Orc.c (Orc.c (Orc.c (Orc.c (Orc.c (Orc.inl (Orc.inl (Orc.inl (Orc.c (Orc.c (Orc.c (Orc.c (Orc.c (Orc.c (Orc.inl (Orc.inl (Orc.c (Orc.c (Orc.c (Orc.c (Orc.c (Orc.c
  (Orc.c (Orc.c (Orc.c (Orc.c (Orc.c (Orc.c (Orc.inl (Orc.inl (Orc.c (Orc.c (Orc.c (Orc.c (Orc.c (Orc.c (Orc.c (Orc.inl (Orc.inl (Orc.c (Orc.c (Orc.c (Orc.c (Orc.c (Orc.inl (Orc.c
  (Orc.c (Orc.c (Orc.c (Orc.inl (Orc.c (Orc.cal [1, 0] (AV.agg [AV.i .i64 (1 : Int), AV.s [0, 0, 2, 0, 0]]) [Upd.keep, Upd.keep] (Orc.cal [] (AV.agg [AV.i .i64 (0 : Int), AV.i .i64
  (0 : Int), AV.i .i64 (2 : Int), AV.i .i64 (0 : Int), AV.i .i64 (0 : Int)]) [] (Orc.c (Orc.c (Orc.inl (Orc.c (Orc.c (Orc.inl (Orc.inl (Orc.c (Orc.c (Orc.c (Orc.c (Orc.c (Orc.c
  (Orc.c (Orc.cal [1, 0] (AV.agg [AV.i .i64 (2 : Int), AV.s [5, 98]]) [Upd.keep, Upd.keep] (Orc.cal [] (AV.agg [AV.i .i64 (5 : Int), AV.s [98]]) [] (Orc.c (Orc.c (Orc.cal [] (AV.s
  [6, 99]) [] (Orc.cal [1, 0] (AV.i .i64 (0 : Int)) [Upd.set (CS.ro nk4 false), Upd.set (SS.o nw4)] (Orc.c (Orc.c (Orc.c (Orc.inl (Orc.inl (Orc.inl (Orc.c (Orc.c (Orc.c (Orc.c
  (Orc.c (Orc.c (Orc.inl (Orc.inl (Orc.c (Orc.c (Orc.c (Orc.c (Orc.c (Orc.c (Orc.c (Orc.c (Orc.c (Orc.c (Orc.c (Orc.c (Orc.c (Orc.c (Orc.c (Orc.c (Orc.inl (Orc.c (Orc.c (Orc.c
  (Orc.c (Orc.inl (Orc.c (Orc.c (Orc.inl (Orc.inl (Orc.c (Orc.c (Orc.c (Orc.c (Orc.c (Orc.c (Orc.c (Orc.cal [1, 0] (AV.agg [AV.i .i64 (3 : Int), AV.s [6, 99]]) [Upd.keep, Upd.keep]
  (Orc.cal [] (AV.agg [AV.i .i64 (6 : Int), AV.s [99]]) [] (Orc.c (Orc.cal [] (AV.s [2, 122]) [] (Orc.cal [1, 0] (AV.i .i64 (0 : Int)) [Upd.set (CS.ro nk5 false), Upd.set (SS.o
  nw5)] (Orc.c (Orc.c (Orc.inl (Orc.c (Orc.c (Orc.inl (Orc.inl (Orc.c (Orc.c (Orc.c (Orc.c (Orc.c (Orc.c (Orc.c (Orc.cal [1, 0] (AV.agg [AV.i .i64 (4 : Int), AV.s [2, 122]])
  [Upd.keep, Upd.keep] (Orc.cal [] (AV.agg [AV.i .i64 (2 : Int), AV.s [122]]) [] (Orc.c (Orc.c (Orc.c (Orc.c (Orc.c (Orc.inl (Orc.inl (Orc.c (Orc.c (Orc.c (Orc.c (Orc.inl (Orc.c
  (Orc.c (Orc.c (Orc.c (Orc.inl (Orc.c (Orc.cal [1, 0] (AV.agg [AV.i .i64 (1 : Int), AV.s [0, 0, 2, 0, 0]]) [Upd.keep, Upd.keep] (Orc.cal [] (AV.agg [AV.i .i64 (0 : Int), AV.i .i64
  (0 : Int), AV.i .i64 (2 : Int), AV.i .i64 (0 : Int), AV.i .i64 (0 : Int)]) [] (Orc.c (Orc.inl (Orc.inl (Orc.c (Orc.cal [1, 0] (AV.agg [AV.i .i64 (1 : Int), AV.s [0, 0, 2, 0, 0]])
  [Upd.keep, Upd.keep] (Orc.cal [] (AV.agg [AV.i .i64 (0 : Int), AV.i .i64 (0 : Int), AV.i .i64 (2 : Int), AV.i .i64 (0 : Int), AV.i .i64 (0 : Int)]) [] (Orc.inl (Orc.c (Orc.cal []
  (AV.s [3, 0, 2, 0, 0]) [] (Orc.cal [1, 0] (AV.i .i64 (0 : Int)) [Upd.set (CS.ro nk6 false), Upd.set (SS.o nw6)] (Orc.c (Orc.c (Orc.c (Orc.c (Orc.inl (Orc.inl (Orc.c (Orc.c (Orc.c
  (Orc.c (Orc.inl (Orc.c (Orc.c (Orc.c (Orc.c (Orc.inl (Orc.c (Orc.cal [1, 0] (AV.agg [AV.i .i64 (2 : Int), AV.s [3, 0, 2, 0, 0]]) [Upd.keep, Upd.keep] (Orc.cal [] (AV.agg [AV.i
  .i64 (3 : Int), AV.i .i64 (0 : Int), AV.i .i64 (2 : Int), AV.i .i64 (0 : Int), AV.i .i64 (0 : Int)]) [] (Orc.c (Orc.c (Orc.c (Orc.c (Orc.c (Orc.inl (Orc.inl (Orc.c (Orc.c (Orc.c
  (Orc.c (Orc.inl (Orc.c (Orc.c (Orc.c (Orc.c (Orc.inl (Orc.inl (Orc.c (Orc.cal [1, 0] (AV.agg [AV.i .i64 (2 : Int), AV.s [3, 0, 2, 0, 0]]) [Upd.keep, Upd.keep] (Orc.cal [] (AV.agg
  [AV.i .i64 (3 : Int), AV.i .i64 (0 : Int), AV.i .i64 (2 : Int), AV.i .i64 (0 : Int), AV.i .i64 (0 : Int)]) [] (Orc.inl (Orc.c (Orc.cal [] (AV.s [3, 3, 2, 0, 0]) [] (Orc.cal [1, 0]
  (AV.i .i64 (0 : Int)) [Upd.set (CS.ro nk7 false), Upd.set (SS.o nw7)] (Orc.c (Orc.c (Orc.c (Orc.c (Orc.inl (Orc.c (Orc.cal [1, 0] (AV.agg [AV.i .i64 (3 : Int), AV.s [3, 3, 2, 0,
  0]]) [Upd.keep, Upd.keep] (Orc.cal [] (AV.agg [AV.i .i64 (3 : Int), AV.i .i64 (3 : Int), AV.i .i64 (2 : Int), AV.i .i64 (0 : Int), AV.i .i64 (0 : Int)]) [] (Orc.c (Orc.c (Orc.c
  (Orc.c
  Orc.z))))))))))))))))))))))))))))))))))))))))))))))))))))))))))))))))))))))))))))))))))))))))))))))))))))))))))))))))))))))))))))))))))))))))))))))))))))))))))))))))))))))))))))))))))))))))))))))))))))))))))))))))))))))))))))))))))))))))))))))))))))))))))))))))))))))))))))))))))))))))))))))))))))))))))))))))))))))))))))))))))))))))))))))))))))))))))))))))))))))))))))))))))))))))))))))))))))))))))))))))))))))))))))))))))))))))))))))))))))))))))))))))))))))))))))))))))))))))))))))))))))))))))))))))))))))))))))))))))))))))))))))))))))))))))))))))))))))))))))))))))))))))))))))))))))))))))))))))))))))))))))))))))))))))))))))))))))))))
  K = (Con Tryd.prog 14 [AV.i .i64 (258 : Int)] [] (AV.tup [AV.p 0 0, AV.i .i64 (0 : Int)]) [Upd.set (SS.o nw0)] ∧ Con Tryd.prog 51 [AV.p 0 0] [some (SS.o nw0)] (AV.tup [AV.p 1 0,
  AV.i .i64 (0 : Int)]) [Upd.keep, Upd.set (CS.roa nk0 false)] ∧ True ∧ True ∧ True ∧ True ∧ Con Tryd.prog 48 [AV.p 0 0, AV.i .i64 (3 : Int)] [some (CS.ro nk0 false), some (SS.o
  nw0)] (AV.agg [AV.i .i64 (0 : Int), AV.s []]) [Upd.keep, Upd.keep] ∧ Con Tryd.prog 111 [AV.s []] [] (AV.agg [AV.i .i64 (0 : Int), AV.s []]) [] ∧ True ∧ True ∧ True ∧ True ∧ True ∧
  True ∧ True ∧ True ∧ True ∧ Con Tryd.prog 48 [AV.p 0 0, AV.i .i64 (128 : Int)] [some (CS.ro nk0 false), some (SS.o nw0)] (AV.agg [AV.i .i64 (0 : Int), AV.s []]) [Upd.keep,
  Upd.keep] ∧ Con Tryd.prog 112 [AV.s []] [] (AV.agg [AV.i .i64 (0 : Int), AV.i .i64 (0 : Int), AV.i .i64 (0 : Int), AV.i .i64 (0 : Int), AV.i .i64 (0 : Int)]) [] ∧ True ∧ True ∧
  True ∧ Con Tryd.prog 48 [AV.p 0 0, AV.i .i64 (3 : Int)] [some (CS.ro nk0 false), some (SS.o nw0)] (AV.agg [AV.i .i64 (0 : Int), AV.s []]) [Upd.keep, Upd.keep] ∧ Con Tryd.prog 111
  [AV.s []] [] (AV.agg [AV.i .i64 (0 : Int), AV.s []]) [] ∧ True ∧ True ∧ True ∧ Con Tryd.prog 104 [AV.agg [AV.i .i64 (1 : Int), AV.s [97]]] [] (AV.s [1, 97]) [] ∧ Con Tryd.prog 103
  [AV.p 0 0, AV.i .i64 (3 : Int), AV.s [1, 97]] [some (CS.ro nk0 false), some (SS.o nw0)] (AV.i .i64 (0 : Int)) [Upd.set (CS.ro nk1 false), Upd.set (SS.o nw1)] ∧ Con Tryd.prog 36
  [AV.p 0 0] [some (SS.o nw1)] (AV.i .i64 (1 : Int)) [Upd.keep] ∧ True ∧ True ∧ True ∧ True ∧ True ∧ True ∧ True ∧ True ∧ Con Tryd.prog 48 [AV.p 0 0, AV.i .i64 (128 : Int)] [some
  (CS.ro nk1 false), some (SS.o nw1)] (AV.agg [AV.i .i64 (0 : Int), AV.s []]) [Upd.keep, Upd.keep] ∧ Con Tryd.prog 112 [AV.s []] [] (AV.agg [AV.i .i64 (0 : Int), AV.i .i64 (0 :
  Int), AV.i .i64 (0 : Int), AV.i .i64 (0 : Int), AV.i .i64 (0 : Int)]) [] ∧ True ∧ True ∧ True ∧ Con Tryd.prog 48 [AV.p 0 0, AV.i .i64 (3 : Int)] [some (CS.ro nk1 false), some
  (SS.o nw1)] (AV.agg [AV.i .i64 (1 : Int), AV.s [1, 97]]) [Upd.keep, Upd.keep] ∧ Con Tryd.prog 111 [AV.s [1, 97]] [] (AV.agg [AV.i .i64 (1 : Int), AV.s [97]]) [] ∧ True ∧ Con
  Tryd.prog 36 [AV.p 0 0] [some (SS.o nw1)] (AV.i .i64 (1 : Int)) [Upd.keep] ∧ True ∧ True ∧ True ∧ True ∧ True ∧ True ∧ True ∧ True ∧ Con Tryd.prog 48 [AV.p 0 0, AV.i .i64 (128 :
  Int)] [some (CS.ro nk1 false), some (SS.o nw1)] (AV.agg [AV.i .i64 (0 : Int), AV.s []]) [Upd.keep, Upd.keep] ∧ Con Tryd.prog 112 [AV.s []] [] (AV.agg [AV.i .i64 (0 : Int), AV.i
  .i64 (0 : Int), AV.i .i64 (0 : Int), AV.i .i64 (0 : Int), AV.i .i64 (0 : Int)]) [] ∧ True ∧ True ∧ True ∧ Con Tryd.prog 48 [AV.p 0 0, AV.i .i64 (3 : Int)] [some (CS.ro nk1 false),
  some (SS.o nw1)] (AV.agg [AV.i .i64 (1 : Int), AV.s [1, 97]]) [Upd.keep, Upd.keep] ∧ Con Tryd.prog 111 [AV.s [1, 97]] [] (AV.agg [AV.i .i64 (1 : Int), AV.s [97]]) [] ∧ True ∧ True
  ∧ True ∧ True ∧ True ∧ True ∧ True ∧ True ∧ True ∧ True ∧ True ∧ Con Tryd.prog 48 [AV.p 0 0, AV.i .i64 (128 : Int)] [some (CS.ro nk1 false), some (SS.o nw1)] (AV.agg [AV.i .i64 (0
  : Int), AV.s []]) [Upd.keep, Upd.keep] ∧ Con Tryd.prog 112 [AV.s []] [] (AV.agg [AV.i .i64 (0 : Int), AV.i .i64 (0 : Int), AV.i .i64 (0 : Int), AV.i .i64 (0 : Int), AV.i .i64 (0 :
  Int)]) [] ∧ True ∧ True ∧ True ∧ Con Tryd.prog 48 [AV.p 0 0, AV.i .i64 (3 : Int)] [some (CS.ro nk1 false), some (SS.o nw1)] (AV.agg [AV.i .i64 (1 : Int), AV.s [1, 97]]) [Upd.keep,
  Upd.keep] ∧ Con Tryd.prog 111 [AV.s [1, 97]] [] (AV.agg [AV.i .i64 (1 : Int), AV.s [97]]) [] ∧ True ∧ True ∧ True ∧ Con Tryd.prog 104 [AV.agg [AV.i .i64 (5 : Int), AV.s [98]]] []
  (AV.s [5, 98]) [] ∧ Con Tryd.prog 103 [AV.p 0 0, AV.i .i64 (3 : Int), AV.s [5, 98]] [some (CS.ro nk1 false), some (SS.o nw1)] (AV.i .i64 (0 : Int)) [Upd.set (CS.ro nk2 false),
  Upd.set (SS.o nw2)] ∧ True ∧ True ∧ True ∧ True ∧ True ∧ True ∧ Con Tryd.prog 48 [AV.p 0 0, AV.i .i64 (128 : Int)] [some (CS.ro nk2 false), some (SS.o nw2)] (AV.agg [AV.i .i64 (0
  : Int), AV.s []]) [Upd.keep, Upd.keep] ∧ Con Tryd.prog 112 [AV.s []] [] (AV.agg [AV.i .i64 (0 : Int), AV.i .i64 (0 : Int), AV.i .i64 (0 : Int), AV.i .i64 (0 : Int), AV.i .i64 (0 :
  Int)]) [] ∧ True ∧ True ∧ True ∧ Con Tryd.prog 132 [AV.agg [AV.i .i64 (0 : Int), AV.i .i64 (0 : Int), AV.i .i64 (2 : Int), AV.i .i64 (0 : Int), AV.i .i64 (0 : Int)]] [] (AV.s [0,
  0, 2, 0, 0]) [] ∧ Con Tryd.prog 103 [AV.p 0 0, AV.i .i64 (128 : Int), AV.s [0, 0, 2, 0, 0]] [some (CS.ro nk2 false), some (SS.o nw2)] (AV.i .i64 (0 : Int)) [Upd.set (CS.ro nk3
  false), Upd.set (SS.o nw3)] ∧ True ∧ True ∧ True ∧ True ∧ True ∧ True ∧ True ∧ True ∧ Con Tryd.prog 48 [AV.p 0 0, AV.i .i64 (128 : Int)] [some (CS.ro nk3 false), some (SS.o nw3)]
  (AV.agg [AV.i .i64 (1 : Int), AV.s [0, 0, 2, 0, 0]]) [Upd.keep, Upd.keep] ∧ Con Tryd.prog 112 [AV.s [0, 0, 2, 0, 0]] [] (AV.agg [AV.i .i64 (0 : Int), AV.i .i64 (0 : Int), AV.i
  .i64 (2 : Int), AV.i .i64 (0 : Int), AV.i .i64 (0 : Int)]) [] ∧ True ∧ True ∧ True ∧ True ∧ True ∧ True ∧ True ∧ True ∧ Con Tryd.prog 48 [AV.p 0 0, AV.i .i64 (128 : Int)] [some
  (CS.ro nk3 false), some (SS.o nw3)] (AV.agg [AV.i .i64 (1 : Int), AV.s [0, 0, 2, 0, 0]]) [Upd.keep, Upd.keep] ∧ Con Tryd.prog 112 [AV.s [0, 0, 2, 0, 0]] [] (AV.agg [AV.i .i64 (0 :
  Int), AV.i .i64 (0 : Int), AV.i .i64 (2 : Int), AV.i .i64 (0 : Int), AV.i .i64 (0 : Int)]) [] ∧ True ∧ True ∧ True ∧ Con Tryd.prog 48 [AV.p 0 0, AV.i .i64 (3 : Int)] [some (CS.ro
  nk3 false), some (SS.o nw3)] (AV.agg [AV.i .i64 (2 : Int), AV.s [5, 98]]) [Upd.keep, Upd.keep] ∧ Con Tryd.prog 111 [AV.s [5, 98]] [] (AV.agg [AV.i .i64 (5 : Int), AV.s [98]]) [] ∧
  True ∧ True ∧ True ∧ Con Tryd.prog 104 [AV.agg [AV.i .i64 (6 : Int), AV.s [99]]] [] (AV.s [6, 99]) [] ∧ Con Tryd.prog 103 [AV.p 0 0, AV.i .i64 (3 : Int), AV.s [6, 99]] [some
  (CS.ro nk3 false), some (SS.o nw3)] (AV.i .i64 (0 : Int)) [Upd.set (CS.ro nk4 false), Upd.set (SS.o nw4)] ∧ True ∧ True ∧ True ∧ True ∧ True ∧ True ∧ True ∧ True ∧ True ∧ Con
  Tryd.prog 48 [AV.p 0 0, AV.i .i64 (3 : Int)] [some (CS.ro nk4 false), some (SS.o nw4)] (AV.agg [AV.i .i64 (3 : Int), AV.s [6, 99]]) [Upd.keep, Upd.keep] ∧ Con Tryd.prog 111 [AV.s
  [6, 99]] [] (AV.agg [AV.i .i64 (6 : Int), AV.s [99]]) [] ∧ True ∧ Con Tryd.prog 104 [AV.agg [AV.i .i64 (2 : Int), AV.s [122]]] [] (AV.s [2, 122]) [] ∧ Con Tryd.prog 103 [AV.p 0 0,
  AV.i .i64 (3 : Int), AV.s [2, 122]] [some (CS.ro nk4 false), some (SS.o nw4)] (AV.i .i64 (0 : Int)) [Upd.set (CS.ro nk5 false), Upd.set (SS.o nw5)] ∧ True ∧ True ∧ True ∧ Con
  Tryd.prog 48 [AV.p 0 0, AV.i .i64 (3 : Int)] [some (CS.ro nk5 false), some (SS.o nw5)] (AV.agg [AV.i .i64 (4 : Int), AV.s [2, 122]]) [Upd.keep, Upd.keep] ∧ Con Tryd.prog 111 [AV.s
  [2, 122]] [] (AV.agg [AV.i .i64 (2 : Int), AV.s [122]]) [] ∧ True ∧ True ∧ True ∧ True ∧ True ∧ True ∧ True ∧ Con Tryd.prog 48 [AV.p 0 0, AV.i .i64 (128 : Int)] [some (CS.ro nk5
  false), some (SS.o nw5)] (AV.agg [AV.i .i64 (1 : Int), AV.s [0, 0, 2, 0, 0]]) [Upd.keep, Upd.keep] ∧ Con Tryd.prog 112 [AV.s [0, 0, 2, 0, 0]] [] (AV.agg [AV.i .i64 (0 : Int), AV.i
  .i64 (0 : Int), AV.i .i64 (2 : Int), AV.i .i64 (0 : Int), AV.i .i64 (0 : Int)]) [] ∧ True ∧ True ∧ Con Tryd.prog 48 [AV.p 0 0, AV.i .i64 (128 : Int)] [some (CS.ro nk5 false), some
  (SS.o nw5)] (AV.agg [AV.i .i64 (1 : Int), AV.s [0, 0, 2, 0, 0]]) [Upd.keep, Upd.keep] ∧ Con Tryd.prog 112 [AV.s [0, 0, 2, 0, 0]] [] (AV.agg [AV.i .i64 (0 : Int), AV.i .i64 (0 :
  Int), AV.i .i64 (2 : Int), AV.i .i64 (0 : Int), AV.i .i64 (0 : Int)]) [] ∧ True ∧ True ∧ Con Tryd.prog 132 [AV.agg [AV.i .i64 (3 : Int), AV.i .i64 (0 : Int), AV.i .i64 (2 : Int),
  AV.i .i64 (0 : Int), AV.i .i64 (0 : Int)]] [] (AV.s [3, 0, 2, 0, 0]) [] ∧ Con Tryd.prog 103 [AV.p 0 0, AV.i .i64 (128 : Int), AV.s [3, 0, 2, 0, 0]] [some (CS.ro nk5 false), some
  (SS.o nw5)] (AV.i .i64 (0 : Int)) [Upd.set (CS.ro nk6 false), Upd.set (SS.o nw6)] ∧ True ∧ True ∧ True ∧ True ∧ True ∧ True ∧ Con Tryd.prog 48 [AV.p 0 0, AV.i .i64 (128 : Int)]
  [some (CS.ro nk6 false), some (SS.o nw6)] (AV.agg [AV.i .i64 (2 : Int), AV.s [3, 0, 2, 0, 0]]) [Upd.keep, Upd.keep] ∧ Con Tryd.prog 112 [AV.s [3, 0, 2, 0, 0]] [] (AV.agg [AV.i
  .i64 (3 : Int), AV.i .i64 (0 : Int), AV.i .i64 (2 : Int), AV.i .i64 (0 : Int), AV.i .i64 (0 : Int)]) [] ∧ True ∧ True ∧ True ∧ True ∧ True ∧ True ∧ Con Tryd.prog 48 [AV.p 0 0,
  AV.i .i64 (128 : Int)] [some (CS.ro nk6 false), some (SS.o nw6)] (AV.agg [AV.i .i64 (2 : Int), AV.s [3, 0, 2, 0, 0]]) [Upd.keep, Upd.keep] ∧ Con Tryd.prog 112 [AV.s [3, 0, 2, 0,
  0]] [] (AV.agg [AV.i .i64 (3 : Int), AV.i .i64 (0 : Int), AV.i .i64 (2 : Int), AV.i .i64 (0 : Int), AV.i .i64 (0 : Int)]) [] ∧ True ∧ True ∧ Con Tryd.prog 132 [AV.agg [AV.i .i64
  (3 : Int), AV.i .i64 (3 : Int), AV.i .i64 (2 : Int), AV.i .i64 (0 : Int), AV.i .i64 (0 : Int)]] [] (AV.s [3, 3, 2, 0, 0]) [] ∧ Con Tryd.prog 103 [AV.p 0 0, AV.i .i64 (128 : Int),
  AV.s [3, 3, 2, 0, 0]] [some (CS.ro nk6 false), some (SS.o nw6)] (AV.i .i64 (0 : Int)) [Upd.set (CS.ro nk7 false), Upd.set (SS.o nw7)] ∧ True ∧ True ∧ Con Tryd.prog 48 [AV.p 0 0,
  AV.i .i64 (128 : Int)] [some (CS.ro nk7 false), some (SS.o nw7)] (AV.agg [AV.i .i64 (3 : Int), AV.s [3, 3, 2, 0, 0]]) [Upd.keep, Upd.keep] ∧ Con Tryd.prog 112 [AV.s [3, 3, 2, 0,
  0]] [] (AV.agg [AV.i .i64 (3 : Int), AV.i .i64 (3 : Int), AV.i .i64 (2 : Int), AV.i .i64 (0 : Int), AV.i .i64 (0 : Int)]) [] ∧ True ∧ K (Res.rv (AV.b true) { tree := z1 (AObj.segs 113 33799 [{ st := 0, sz := 1, n := 1, f := oneF (CV.i .i64 (Int.ofNat (SS.n nw7))) }, { st := 1, sz := 65, n := 512, f := durF (SS.dur nw7) (SS.torn nw7) }, { st := 33281, sz := 1, n := 1, f := oneF (CV.opv (pB (SS.P nw7)) 66 (pW (SS.P nw7))) }, { st := 33282, sz := 1, n := 512, f := latF (lB (SS.P nw7)) (lW (SS.P nw7)) }, { st := 33794, sz := 5, n := 1, f := tailF (Int.ofNat (List.length (SS.P nw7))) (Int.ofNat (SS.wr nw7)) (SS.off nw7) (SS.armed nw7) (Int.ofNat (SS.left nw7)) }]) (z1 (AObj.segs 172 772 [{ st := 1, sz := 1, n := 1, f := oneF (CV.i .i64 (Int.ofNat (CS.n nk7))) }, { st := 2, sz := 3, n := 256, f := cellF (CS.q nk7) (CS.d nk7) (CS.sp nk7) }, { st := 770, sz := 1, n := 1, f := oneF (CV.b (CS.dead nk7)) }, { st := 771, sz := 1, n := 1, f := oneF (CV.b false) }] [(0, AV.p 0 0)]) (z1 (AObj.cells 79 2 [] (z1 (AV.i .i64 (1 : Int)) (zl (AV.s [97])) T.e)) (z1 (AObj.cells 79 2 [AV.i .i64 (0 : Int), AV.s []] (z1 (AV.i .i64 (0 : Int)) (zl (AV.s [])) T.e)) (z1 (AObj.cells 97 5 [AV.i .i64 (0 : Int), AV.i .i64 (0 : Int), AV.i .i64 (0 : Int), AV.i .i64 (0 : Int), AV.i .i64 (0 : Int)] (z1 (AV.i .i64 (0 : Int)) (z1 (AV.i .i64 (0 : Int)) (zl (AV.i .i64 (0 : Int))) T.e) (z1 (AV.i .i64 (0 : Int)) (zl (AV.i .i64 (0 : Int))) T.e))) (zl (AObj.cells 79 2 [] (z1 (AV.i .i64 (6 : Int)) (zl (AV.s [99])) T.e))) (zl (AObj.cells 3 1 [] (zl (AV.i .i64 (3 : Int)))))) (z1 (AObj.cells 3 1 [] (zl (AV.i .i64 (0 : Int)))) (zl (AObj.cells 79 2 [AV.i .i64 (0 : Int), AV.s []] (z1 (AV.i .i64 (2 : Int)) (zl (AV.s [122])) T.e))) T.e)) (z1 (AObj.cells 79 2 [AV.i .i64 (0 : Int), AV.s []] (z1 (AV.i .i64 (1 : Int)) (zl (AV.s [97])) T.e)) (z1 (AObj.cells 79 2 [] (z1 (AV.i .i64 (5 : Int)) (zl (AV.s [98])) T.e)) (zl (AObj.cells 79 2 [AV.i .i64 (0 : Int), AV.s []] (z1 (AV.i .i64 (5 : Int)) (zl (AV.s [98])) T.e))) (zl (AObj.cells 97 5 [AV.i .i64 (0 : Int), AV.i .i64 (0 : Int), AV.i .i64 (0 : Int), AV.i .i64 (0 : Int), AV.i .i64 (0 : Int)] (z1 (AV.i .i64 (3 : Int)) (z1 (AV.i .i64 (3 : Int)) (zl (AV.i .i64 (0 : Int))) T.e) (z1 (AV.i .i64 (2 : Int)) (zl (AV.i .i64 (0 : Int))) T.e))))) (z1 (AObj.cells 97 5 [AV.i .i64 (0 : Int), AV.i .i64 (0 : Int), AV.i .i64 (0 : Int), AV.i .i64 (0 : Int), AV.i .i64 (0 : Int)] (z1 (AV.i .i64 (0 : Int)) (z1 (AV.i .i64 (0 : Int)) (zl (AV.i .i64 (0 : Int))) T.e) (z1 (AV.i .i64 (2 : Int)) (zl (AV.i .i64 (0 : Int))) T.e))) (zl (AObj.cells 97 5 [AV.i .i64 (0 : Int), AV.i .i64 (0 : Int), AV.i .i64 (0 : Int), AV.i .i64 (0 : Int), AV.i .i64 (0 : Int)] (z1 (AV.i .i64 (0 : Int)) (z1 (AV.i .i64 (0 : Int)) (zl (AV.i .i64 (0 : Int))) T.e) (z1 (AV.i .i64 (2 : Int)) (zl (AV.i .i64 (0 : Int))) T.e)))) T.e))) (z1 (AObj.cells 97 5 [AV.i .i64 (0 : Int), AV.i .i64 (0 : Int), AV.i .i64 (0 : Int), AV.i .i64 (0 : Int), AV.i .i64 (0 : Int)] (z1 (AV.i .i64 (0 : Int)) (z1 (AV.i .i64 (0 : Int)) (zl (AV.i .i64 (0 : Int))) T.e) (z1 (AV.i .i64 (0 : Int)) (zl (AV.i .i64 (0 : Int))) T.e))) (z1 (AObj.cells 79 2 [] (z1 (AV.i .i64 (1 : Int)) (zl (AV.s [97])) T.e)) (z1 (AObj.cells 79 2 [AV.i .i64 (0 : Int), AV.s []] (z1 (AV.i .i64 (1 : Int)) (zl (AV.s [97])) T.e)) (zl (AObj.cells 97 5 [AV.i .i64 (0 : Int), AV.i .i64 (0 : Int), AV.i .i64 (0 : Int), AV.i .i64 (0 : Int), AV.i .i64 (0 : Int)] (z1 (AV.i .i64 (0 : Int)) (z1 (AV.i .i64 (0 : Int)) (zl (AV.i .i64 (0 : Int))) T.e) (z1 (AV.i .i64 (2 : Int)) (zl (AV.i .i64 (0 : Int))) T.e)))) (zl (AObj.cells 97 5 [AV.i .i64 (0 : Int), AV.i .i64 (0 : Int), AV.i .i64 (0 : Int), AV.i .i64 (0 : Int), AV.i .i64 (0 : Int)] (z1 (AV.i .i64 (3 : Int)) (z1 (AV.i .i64 (0 : Int)) (zl (AV.i .i64 (0 : Int))) T.e) (z1 (AV.i .i64 (2 : Int)) (zl (AV.i .i64 (0 : Int))) T.e))))) (z1 (AObj.cells 97 5 [AV.i .i64 (0 : Int), AV.i .i64 (0 : Int), AV.i .i64 (0 : Int), AV.i .i64 (0 : Int), AV.i .i64 (0 : Int)] (z1 (AV.i .i64 (0 : Int)) (z1 (AV.i .i64 (0 : Int)) (zl (AV.i .i64 (0 : Int))) T.e) (z1 (AV.i .i64 (0 : Int)) (zl (AV.i .i64 (0 : Int))) T.e))) (zl (AObj.cells 97 5 [AV.i .i64 (0 : Int), AV.i .i64 (0 : Int), AV.i .i64 (0 : Int), AV.i .i64 (0 : Int), AV.i .i64 (0 : Int)] (z1 (AV.i .i64 (0 : Int)) (z1 (AV.i .i64 (0 : Int)) (zl (AV.i .i64 (0 : Int))) T.e) (z1 (AV.i .i64 (2 : Int)) (zl (AV.i .i64 (0 : Int))) T.e)))) T.e)) (z1 (AObj.cells 79 2 [] (z1 (AV.i .i64 (1 : Int)) (zl (AV.s [98])) T.e)) (z1 (AObj.cells 79 2 [AV.i .i64 (0 : Int), AV.s []] (z1 (AV.i .i64 (1 : Int)) (zl (AV.s [97])) T.e)) (zl (AObj.cells 79 2 [] (z1 (AV.i .i64 (2 : Int)) (zl (AV.s [122])) T.e))) T.e) (z1 (AObj.cells 79 2 [] (z1 (AV.i .i64 (6 : Int)) (zl (AV.s [99])) T.e)) (zl (AObj.cells 3 1 [] (zl (AV.i .i64 (2 : Int))))) T.e)))) (z1 (AObj.cells 79 2 [AV.i .i64 (0 : Int), AV.s []] (z1 (AV.i .i64 (0 : Int)) (zl (AV.s [])) T.e)) (z1 (AObj.cells 79 2 [] (z1 (AV.i .i64 (1 : Int)) (zl (AV.s [97])) T.e)) (z1 (AObj.cells 79 2 [] (z1 (AV.i .i64 (1 : Int)) (zl (AV.s [97])) T.e)) (z1 (AObj.cells 79 2 [AV.i .i64 (0 : Int), AV.s []] (z1 (AV.i .i64 (1 : Int)) (zl (AV.s [97])) T.e)) (zl (AObj.cells 79 2 [] (z1 (AV.i .i64 (6 : Int)) (zl (AV.s [99])) T.e))) (zl (AObj.cells 97 5 [AV.i .i64 (0 : Int), AV.i .i64 (0 : Int), AV.i .i64 (0 : Int), AV.i .i64 (0 : Int), AV.i .i64 (0 : Int)] (z1 (AV.i .i64 (3 : Int)) (z1 (AV.i .i64 (0 : Int)) (zl (AV.i .i64 (0 : Int))) T.e) (z1 (AV.i .i64 (2 : Int)) (zl (AV.i .i64 (0 : Int))) T.e))))) (z1 (AObj.cells 3 1 [] (zl (AV.i .i64 (2 : Int)))) (zl (AObj.cells 3 1 [] (zl (AV.i .i64 (3 : Int))))) T.e)) (z1 (AObj.cells 79 2 [AV.i .i64 (0 : Int), AV.s []] (z1 (AV.i .i64 (1 : Int)) (zl (AV.s [97])) T.e)) (z1 (AObj.cells 97 5 [AV.i .i64 (0 : Int), AV.i .i64 (0 : Int), AV.i .i64 (0 : Int), AV.i .i64 (0 : Int), AV.i .i64 (0 : Int)] (z1 (AV.i .i64 (0 : Int)) (z1 (AV.i .i64 (0 : Int)) (zl (AV.i .i64 (0 : Int))) T.e) (z1 (AV.i .i64 (0 : Int)) (zl (AV.i .i64 (0 : Int))) T.e))) (zl (AObj.cells 79 2 [] (z1 (AV.i .i64 (2 : Int)) (zl (AV.s [122])) T.e))) T.e) (z1 (AObj.cells 79 2 [] (z1 (AV.i .i64 (6 : Int)) (zl (AV.s [99])) T.e)) (zl (AObj.cells 97 5 [AV.i .i64 (0 : Int), AV.i .i64 (0 : Int), AV.i .i64 (0 : Int), AV.i .i64 (0 : Int), AV.i .i64 (0 : Int)] (z1 (AV.i .i64 (3 : Int)) (z1 (AV.i .i64 (0 : Int)) (zl (AV.i .i64 (0 : Int))) T.e) (z1 (AV.i .i64 (2 : Int)) (zl (AV.i .i64 (0 : Int))) T.e)))) T.e))) (z1 (AObj.cells 79 2 [AV.i .i64 (0 : Int), AV.s []] (z1 (AV.i .i64 (0 : Int)) (zl (AV.s [])) T.e)) (z1 (AObj.cells 97 5 [AV.i .i64 (0 : Int), AV.i .i64 (0 : Int), AV.i .i64 (0 : Int), AV.i .i64 (0 : Int), AV.i .i64 (0 : Int)] (z1 (AV.i .i64 (0 : Int)) (z1 (AV.i .i64 (0 : Int)) (zl (AV.i .i64 (0 : Int))) T.e) (z1 (AV.i .i64 (0 : Int)) (zl (AV.i .i64 (0 : Int))) T.e))) (z1 (AObj.cells 79 2 [] (z1 (AV.i .i64 (5 : Int)) (zl (AV.s [98])) T.e)) (zl (AObj.cells 79 2 [AV.i .i64 (0 : Int), AV.s []] (z1 (AV.i .i64 (5 : Int)) (zl (AV.s [98])) T.e))) (zl (AObj.cells 97 5 [AV.i .i64 (0 : Int), AV.i .i64 (0 : Int), AV.i .i64 (0 : Int), AV.i .i64 (0 : Int), AV.i .i64 (0 : Int)] (z1 (AV.i .i64 (3 : Int)) (z1 (AV.i .i64 (3 : Int)) (zl (AV.i .i64 (0 : Int))) T.e) (z1 (AV.i .i64 (2 : Int)) (zl (AV.i .i64 (0 : Int))) T.e))))) (z1 (AObj.cells 97 5 [AV.i .i64 (0 : Int), AV.i .i64 (0 : Int), AV.i .i64 (0 : Int), AV.i .i64 (0 : Int), AV.i .i64 (0 : Int)] (z1 (AV.i .i64 (0 : Int)) (z1 (AV.i .i64 (0 : Int)) (zl (AV.i .i64 (0 : Int))) T.e) (z1 (AV.i .i64 (0 : Int)) (zl (AV.i .i64 (0 : Int))) T.e))) (zl (AObj.cells 97 5 [AV.i .i64 (0 : Int), AV.i .i64 (0 : Int), AV.i .i64 (0 : Int), AV.i .i64 (0 : Int), AV.i .i64 (0 : Int)] (z1 (AV.i .i64 (0 : Int)) (z1 (AV.i .i64 (0 : Int)) (zl (AV.i .i64 (0 : Int))) T.e) (z1 (AV.i .i64 (2 : Int)) (zl (AV.i .i64 (0 : Int))) T.e)))) T.e)) (z1 (AObj.cells 79 2 [] (z1 (AV.i .i64 (1 : Int)) (zl (AV.s [98])) T.e)) (z1 (AObj.cells 79 2 [AV.i .i64 (0 : Int), AV.s []] (z1 (AV.i .i64 (1 : Int)) (zl (AV.s [97])) T.e)) (zl (AObj.cells 79 2 [AV.i .i64 (0 : Int), AV.s []] (z1 (AV.i .i64 (6 : Int)) (zl (AV.s [99])) T.e))) T.e) (z1 (AObj.cells 97 5 [AV.i .i64 (0 : Int), AV.i .i64 (0 : Int), AV.i .i64 (0 : Int), AV.i .i64 (0 : Int), AV.i .i64 (0 : Int)] (z1 (AV.i .i64 (0 : Int)) (z1 (AV.i .i64 (0 : Int)) (zl (AV.i .i64 (0 : Int))) T.e) (z1 (AV.i .i64 (2 : Int)) (zl (AV.i .i64 (0 : Int))) T.e))) (zl (AObj.cells 97 5 [AV.i .i64 (0 : Int), AV.i .i64 (0 : Int), AV.i .i64 (0 : Int), AV.i .i64 (0 : Int), AV.i .i64 (0 : Int)] (z1 (AV.i .i64 (3 : Int)) (z1 (AV.i .i64 (0 : Int)) (zl (AV.i .i64 (0 : Int))) T.e) (z1 (AV.i .i64 (2 : Int)) (zl (AV.i .i64 (0 : Int))) T.e)))) T.e)))), next := 52, log := [51, 51, 0, 1, 50, 50, 50, 49, 49, 48, 48, 47, 46, 46, 45, 0, 1, 44, 44, 44, 43, 43, 42, 42, 41, 41, 40, 39, 39, 0, 1, 38, 38, 37, 36, 0, 1, 35, 35, 34, 34, 33, 33, 32, 31, 30, 30, 29, 28, 0, 1, 27, 27, 27, 26, 26, 25, 25, 24, 23, 0, 1, 22, 22, 21, 21, 20, 20, 19, 18, 17, 17, 16, 16, 15, 15, 14, 13, 12, 12, 11, 11, 10, 10, 9, 8, 0, 1, 7, 7, 6, 6, 5, 5, 4, 3, 2, 2, 1, 0] })
  Orc.z) := by kernel_rfl

theorem rnames_vc (nwB : SS) (K : Res → Orc → Prop) : runK Tryd.prog 1000000 (.call 11 [] (mkH [])) (Orc.cal [] (AV.tup [AV.p 0 0, AV.i .i64 (0 : Int)]) [Upd.set (SS.o nwB)]
  (Orc.inl (Orc.cal [0] (AV.tup [AV.p0, AV.i .i64 (12 : Int)]) [Upd.keep] (Orc.c (Orc.inl (Orc.cal [] (AV.tup [AV.p0, AV.i .i64 (1 : Int)]) [] (Orc.c (Orc.cal [] (AV.b true) []
  (Orc.c (Orc.c (Orc.c (Orc.c (Orc.c (Orc.c (Orc.c (Orc.c (Orc.c (Orc.c (Orc.c (Orc.c (Orc.c (Orc.c (Orc.c (Orc.c (Orc.c (Orc.c (Orc.c Orc.z))))))))))))))))))))))))))) K = (Con
  Tryd.prog 14 [AV.i .i64 (257 : Int)] [] (AV.tup [AV.p 0 0, AV.i .i64 (0 : Int)]) [Upd.set (SS.o nwB)] ∧ Con Tryd.prog 44 [AV.p 0 0, AV.i .i64 (129 : Int)] [some (SS.o nwB)]
  (AV.tup [AV.p0, AV.i .i64 (12 : Int)]) [Upd.keep] ∧ Con Tryd.prog 44 [AV.p0, AV.i .i64 (129 : Int)] [] (AV.tup [AV.p0, AV.i .i64 (1 : Int)]) [] ∧ Con Tryd.prog 52 [] [] (AV.b
  true) [] ∧ True ∧ True ∧ K (Res.rv (AV.b true) { tree := zl (AObj.segs 113 33799 [{ st := 0, sz := 1, n := 1, f := oneF (CV.i .i64 (Int.ofNat (SS.n nwB))) }, { st := 1, sz := 65, n := 512, f := durF (SS.dur nwB) (SS.torn nwB) }, { st := 33281, sz := 1, n := 1, f := oneF (CV.opv (pB (SS.P nwB)) 66 (pW (SS.P nwB))) }, { st := 33282, sz := 1, n := 512, f := latF (lB (SS.P nwB)) (lW (SS.P nwB)) }, { st := 33794, sz := 5, n := 1, f := tailF (Int.ofNat (List.length (SS.P nwB))) (Int.ofNat (SS.wr nwB)) (SS.off nwB) (SS.armed nwB) (Int.ofNat (SS.left nwB)) }]), next := 1, log := [0] })
  Orc.z) := by kernel_rfl

theorem rawake_gen (nk0 nk1 nk2 nk3 nk4 nk5 nk6 nk7 : CS) (nw0 nw1 nw2 nw3 nw4 nw5 nw6 nw7 : SS) 
    (hn : Con Tryd.prog 14 [.i .i64 258] [] (.tup [.p 0 0, .i .i64 0]) [.set (SS.o nw0)])
    (ho : Con Tryd.prog 51 [.p 0 0] [some (SS.o nw0)] (.tup [.p 1 0, .i .i64 0]) [.keep, .set (CS.roa nk0 false)])
    (g0_3 : Con Tryd.prog 48 [.p 0 0, .i .i64 3] [some (CS.ro nk0 false), some (SS.o nw0)] (.agg [.i .i64 0, .s []]) [.keep, .keep])
    (g0_128 : Con Tryd.prog 48 [.p 0 0, .i .i64 128] [some (CS.ro nk0 false), some (SS.o nw0)] (.agg [.i .i64 0, .s []]) [.keep, .keep])
    (g1_128 : Con Tryd.prog 48 [.p 0 0, .i .i64 128] [some (CS.ro nk1 false), some (SS.o nw1)] (.agg [.i .i64 0, .s []]) [.keep, .keep])
    (g1_3 : Con Tryd.prog 48 [.p 0 0, .i .i64 3] [some (CS.ro nk1 false), some (SS.o nw1)] (.agg [.i .i64 1, .s [1, 97]]) [.keep, .keep])
    (g2_128 : Con Tryd.prog 48 [.p 0 0, .i .i64 128] [some (CS.ro nk2 false), some (SS.o nw2)] (.agg [.i .i64 0, .s []]) [.keep, .keep])
    (g3_128 : Con Tryd.prog 48 [.p 0 0, .i .i64 128] [some (CS.ro nk3 false), some (SS.o nw3)] (.agg [.i .i64 1, .s [0, 0, 2, 0, 0]]) [.keep, .keep])
    (g3_3 : Con Tryd.prog 48 [.p 0 0, .i .i64 3] [some (CS.ro nk3 false), some (SS.o nw3)] (.agg [.i .i64 2, .s [5, 98]]) [.keep, .keep])
    (g4_3 : Con Tryd.prog 48 [.p 0 0, .i .i64 3] [some (CS.ro nk4 false), some (SS.o nw4)] (.agg [.i .i64 3, .s [6, 99]]) [.keep, .keep])
    (g5_3 : Con Tryd.prog 48 [.p 0 0, .i .i64 3] [some (CS.ro nk5 false), some (SS.o nw5)] (.agg [.i .i64 4, .s [2, 122]]) [.keep, .keep])
    (g5_128 : Con Tryd.prog 48 [.p 0 0, .i .i64 128] [some (CS.ro nk5 false), some (SS.o nw5)] (.agg [.i .i64 1, .s [0, 0, 2, 0, 0]]) [.keep, .keep])
    (g6_128 : Con Tryd.prog 48 [.p 0 0, .i .i64 128] [some (CS.ro nk6 false), some (SS.o nw6)] (.agg [.i .i64 2, .s [3, 0, 2, 0, 0]]) [.keep, .keep])
    (g7_128 : Con Tryd.prog 48 [.p 0 0, .i .i64 128] [some (CS.ro nk7 false), some (SS.o nw7)] (.agg [.i .i64 3, .s [3, 3, 2, 0, 0]]) [.keep, .keep])
    (p0 : Con Tryd.prog 103 [.p 0 0, .i .i64 3, .s [1, 97]] [some (CS.ro nk0 false), some (SS.o nw0)] (.i .i64 0) [.set (CS.ro nk1 false), .set (SS.o nw1)])
    (p1 : Con Tryd.prog 103 [.p 0 0, .i .i64 3, .s [5, 98]] [some (CS.ro nk1 false), some (SS.o nw1)] (.i .i64 0) [.set (CS.ro nk2 false), .set (SS.o nw2)])
    (p2 : Con Tryd.prog 103 [.p 0 0, .i .i64 128, .s [0, 0, 2, 0, 0]] [some (CS.ro nk2 false), some (SS.o nw2)] (.i .i64 0) [.set (CS.ro nk3 false), .set (SS.o nw3)])
    (p3 : Con Tryd.prog 103 [.p 0 0, .i .i64 3, .s [6, 99]] [some (CS.ro nk3 false), some (SS.o nw3)] (.i .i64 0) [.set (CS.ro nk4 false), .set (SS.o nw4)])
    (p4 : Con Tryd.prog 103 [.p 0 0, .i .i64 3, .s [2, 122]] [some (CS.ro nk4 false), some (SS.o nw4)] (.i .i64 0) [.set (CS.ro nk5 false), .set (SS.o nw5)])
    (p5 : Con Tryd.prog 103 [.p 0 0, .i .i64 128, .s [3, 0, 2, 0, 0]] [some (CS.ro nk5 false), some (SS.o nw5)] (.i .i64 0) [.set (CS.ro nk6 false), .set (SS.o nw6)])
    (p6 : Con Tryd.prog 103 [.p 0 0, .i .i64 128, .s [3, 3, 2, 0, 0]] [some (CS.ro nk6 false), some (SS.o nw6)] (.i .i64 0) [.set (CS.ro nk7 false), .set (SS.o nw7)])
    (hw : Con Tryd.prog 36 [.p 0 0] [some (SS.o nw1)] (.i .i64 1) [.keep]) : Con Tryd.prog 52 [] [] (.b true) [] := by
  have k_bo0 := bo0_con
  have k_bo1 := bo1_con
  have k_bo2 := bo2_con
  have k_bo3 := bo3_con
  have k_bo4 := bo4_con
  have k_bt0 := bt0_con
  have k_bt1 := bt1_con
  have k_bt2 := bt2_con
  have k_bt3 := bt3_con
  have k_mo0 := mo0_con
  have k_mo1 := mo1_con
  have k_mo2 := mo2_con
  have k_mo3 := mo3_con
  have k_mt0 := mt0_con
  have k_mt1 := mt1_con
  have k_mt2 := mt2_con
  refine con_plain rfl ((rawake_vc nk0 nk1 nk2 nk3 nk4 nk5 nk6 nk7 nw0 nw1 nw2 nw3 nw4 nw5 nw6 nw7 _).mpr ?_)
  repeat' first | exact trivial | assumption | exact ⟨_, _, rfl, rfl⟩ | apply And.intro | decide

theorem by2 {a b : Nat} (ha : a < 256) (hb : b < 256) : ∀ x ∈ [a, b], x < 256 := fun x hx => by
  simp only [List.mem_cons, List.mem_nil_iff, or_false] at hx
  rcases hx with rfl | rfl <;> assumption
theorem by5 {a b c d e : Nat} (ha : a < 256) (hb : b < 256) (hc : c < 256) (hd : d < 256) (he : e < 256) : ∀ x ∈ [a, b, c, d, e], x < 256 := fun x hx => by
  simp only [List.mem_cons, List.mem_nil_iff, or_false] at hx
  rcases hx with rfl | rfl | rfl | rfl | rfl <;> assumption
theorem rcg {c : CS} {s : SS} {i : Int} {q : Nat} {d : List Nat} (hn : c.n ≤ 256) (hq : c.getQ i = q) (hd : c.getD i = d) : Con Tryd.prog 48 [.p 0 0, .i .i64 i] [some (c.ro false), some s.o] (.agg [.i .i64 (Int.ofNat q), .s d]) [.keep, .keep] := by
  have h := rget_con c false s i hn
  rw [hq, hd] at h; exact h
theorem rcp {c : CS} {s : SS} {m : Nat} (h : Inv c s m) (hm : m < 1073741823) (i : Int) (x : List Nat) (hx : ∀ b ∈ x, b < 256) (he : c.putE s i x = 0) :
    Con Tryd.prog 103 [.p 0 0, .i .i64 i, .s x] [some (c.ro false), some s.o] (.i .i64 0) [.set ((c.putC s i x).ro false), .set (c.putS s i x).o] := by
  have k := rp_con h hm false i x hx
  rw [he, show decide ((0 : Int) = 13) = false by decide] at k
  exact k
theorem ni0 : Inv nk0 nw0 0 := .opened (by decide) (by decide) (OkM.new (by decide)) (Byt.new 258)
theorem ni1 : Inv nk1 nw1 1 := ni0.put 3 [1, 97] (by2 (by decide) (by decide))
theorem ni2 : Inv nk2 nw2 2 := ni1.put 3 [5, 98] (by2 (by decide) (by decide))
theorem ni3 : Inv nk3 nw3 3 := ni2.put 128 [0, 0, 2, 0, 0] (by5 (by decide) (by decide) (by decide) (by decide) (by decide))
theorem ni4 : Inv nk4 nw4 4 := ni3.put 3 [6, 99] (by2 (by decide) (by decide))
theorem ni5 : Inv nk5 nw5 5 := ni4.put 3 [2, 122] (by2 (by decide) (by decide))
theorem ni6 : Inv nk6 nw6 6 := ni5.put 128 [3, 0, 2, 0, 0] (by5 (by decide) (by decide) (by decide) (by decide) (by decide))
theorem ni7 : Inv nk7 nw7 7 := ni6.put 128 [3, 3, 2, 0, 0] (by5 (by decide) (by decide) (by decide) (by decide) (by decide))
theorem rawake_con : Con Tryd.prog 52 [] [] (.b true) [] :=
  rawake_gen nk0 nk1 nk2 nk3 nk4 nk5 nk6 nk7 nw0 nw1 nw2 nw3 nw4 nw5 nw6 nw7
    (new_con 258 (by decide) (by decide)) (ropen_con nw0 (by decide) (by decide) rfl (Byt.new 258))
    (rcg (q := 0) (d := []) ni0.hc (by kernel_rfl) (by kernel_rfl))
    (rcg (q := 0) (d := []) ni0.hc (by kernel_rfl) (by kernel_rfl))
    (rcg (q := 0) (d := []) ni1.hc (by kernel_rfl) (by kernel_rfl))
    (rcg (q := 1) (d := [1, 97]) ni1.hc (by kernel_rfl) (by kernel_rfl))
    (rcg (q := 0) (d := []) ni2.hc (by kernel_rfl) (by kernel_rfl))
    (rcg (q := 1) (d := [0, 0, 2, 0, 0]) ni3.hc (by kernel_rfl) (by kernel_rfl))
    (rcg (q := 2) (d := [5, 98]) ni3.hc (by kernel_rfl) (by kernel_rfl))
    (rcg (q := 3) (d := [6, 99]) ni4.hc (by kernel_rfl) (by kernel_rfl))
    (rcg (q := 4) (d := [2, 122]) ni5.hc (by kernel_rfl) (by kernel_rfl))
    (rcg (q := 1) (d := [0, 0, 2, 0, 0]) ni5.hc (by kernel_rfl) (by kernel_rfl))
    (rcg (q := 2) (d := [3, 0, 2, 0, 0]) ni6.hc (by kernel_rfl) (by kernel_rfl))
    (rcg (q := 3) (d := [3, 3, 2, 0, 0]) ni7.hc (by kernel_rfl) (by kernel_rfl))
    (rcp ni0 (by decide) 3 [1, 97] (by2 (by decide) (by decide)) (by kernel_rfl))
    (rcp ni1 (by decide) 3 [5, 98] (by2 (by decide) (by decide)) (by kernel_rfl))
    (rcp ni2 (by decide) 128 [0, 0, 2, 0, 0] (by5 (by decide) (by decide) (by decide) (by decide) (by decide)) (by kernel_rfl))
    (rcp ni3 (by decide) 3 [6, 99] (by2 (by decide) (by decide)) (by kernel_rfl))
    (rcp ni4 (by decide) 3 [2, 122] (by2 (by decide) (by decide)) (by kernel_rfl))
    (rcp ni5 (by decide) 128 [3, 0, 2, 0, 0] (by5 (by decide) (by decide) (by decide) (by decide) (by decide)) (by kernel_rfl))
    (rcp ni6 (by decide) 128 [3, 3, 2, 0, 0] (by5 (by decide) (by decide) (by decide) (by decide) (by decide)) (by kernel_rfl))
    (by
      have h := writes2_con nw1
      rw [show nw1.wr = 1 by kernel_rfl] at h; exact h)

noncomputable def nwB : SS := SS.new 257
theorem rnames_con : Con Tryd.prog 11 [] [] (.b true) [] := by
  have h2 : Con Tryd.prog 44 [.p 0 0, .i .i64 129] [some nwB.o] (.tup [.p0, .i .i64 12]) [.keep] := by
    have e : openE nwB 129 = 12 := by kernel_rfl
    have h := openBad_con nwB 129 (by rw [e]; decide)
    rw [e] at h; exact h
  exact con_plain rfl ((rnames_vc nwB _).mpr ⟨new_con 257 (by decide) (by decide), h2, openNil_con 129, rawake_con, trivial, trivial, _, _, rfl, rfl⟩)

end Go.Proofs.Cl
