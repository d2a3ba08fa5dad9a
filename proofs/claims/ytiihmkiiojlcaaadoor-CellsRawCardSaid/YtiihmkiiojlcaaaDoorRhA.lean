/- Runs over unknown values, told by the kernel: part RhA. -/
import Derived.Test.YtiihmkiiojlcaaaDoorFrA
set_option linter.unusedSimpArgs false
set_option linter.unusedVariables false
set_option maxRecDepth 20000
namespace Go.Proofs.Cl
open Go Go.Sim Go.Proofs Go.Proofs.Cd Go.Proofs.St Go.Proofs.YtiihmkiiojlcaaaDoor
theorem rlookL_vc (L : Nat) (gg : Nat → Nat → CV) (hl : (!decide (Int.ofNat L = (64 : Int))) = true) (K : Res → Orc → Prop) : runK Tryd.prog 1000000 (.call 31 [.sv 1 L gg] (mkH
  [])) (Orc.f (Orc.f (Orc.f (Orc.f (Orc.t (Orc.c Orc.z)))))) K = ((!!decide (Int.ofNat L = (64 : Int))) = false ∧ (!!decide (Int.ofNat L = (64 : Int))) = false ∧ (!!decide
  (Int.ofNat L = (64 : Int))) = false ∧ (!!decide (Int.ofNat L = (64 : Int))) = false ∧ (!decide (Int.ofNat L = (64 : Int))) = true ∧ K (Res.rv (AV.agg [AV.i .i64 (0 : Int), AV.s
  []]) { tree := zl (AObj.cells 45 2 [AV.i .i64 (0 : Int), AV.s []] (z1 (AV.i .i64 (0 : Int)) (zl (AV.s [])) T.e)), next := 1, log := [0, 0] }) Orc.z) := by kernel_rfl
theorem rlook0_vc (b : Nat → Nat) (h8 : decide ((51 : Int) < Int.ofNat (b 8)) = true) (K : Res → Orc → Prop) : runK Tryd.prog 1000000 (.call 31 [.sv 1 64 (byF b)] (mkH [])) (Orc.c
  (Orc.c (Orc.c (Orc.c (Orc.c (Orc.t Orc.z)))))) K = (((0 : Int) ≤ (8 : Int) ∧ (8 : Int) < (64 : Int)) ∧ True ∧ decide ((51 : Int) < Int.ofNat (b 8)) = true ∧ K (Res.rv (AV.agg
  [AV.i .i64 (0 : Int), AV.s []]) { tree := zl (AObj.cells 45 2 [AV.i .i64 (0 : Int), AV.s []] (z1 (AV.i .i64 (0 : Int)) (zl (AV.s [])) T.e)), next := 1, log := [0, 0] }) Orc.z) :=
  by kernel_rfl
theorem rlookH_vc (lo : Int) (hi : Int) (b : Nat → Nat) (h8 : decide ((51 : Int) < Int.ofNat (b 8)) = false) (hh : decide ((256 : Int) < hi) = true) (K : Res → Orc → Prop) : runK
  Tryd.prog 1000000 (.call 31 [.sv 1 64 (byF b)] (mkH [])) (Orc.c (Orc.c (Orc.c (Orc.c (Orc.c (Orc.f (Orc.cal [] (AV.tup [AV.i .u32 lo, AV.b true]) [] (Orc.cal [] (AV.tup [AV.i .u32
  hi, AV.b true]) [] (Orc.f (Orc.f (Orc.f (Orc.t (Orc.c (Orc.c (Orc.c (Orc.c (Orc.c Orc.z))))))))))))))))) K = (((0 : Int) ≤ (8 : Int) ∧ (8 : Int) < (64 : Int)) ∧ True ∧ decide ((51
  : Int) < Int.ofNat (b 8)) = false ∧ Con Tryd.prog 44 [AV.sv 1 64 (byF b)] [] (AV.tup [AV.i .u32 lo, AV.b true]) [] ∧ ((0 : Int) ≤ (4 : Int) ∧ True ∧ 4 ≤ 64 ∧ 64 ≤ 64) ∧ Con
  Tryd.prog 44 [AV.sv 1 60 (shiftF 4 (byF b))] [] (AV.tup [AV.i .u32 hi, AV.b true]) [] ∧ ((-9223372036854775808 : Int) ≤ hi ∧ hi ≤ (9223372036854775807 : Int)) ∧ True ∧
  ((-9223372036854775808 : Int) ≤ lo ∧ lo ≤ (9223372036854775807 : Int)) ∧ ((-9223372036854775808 : Int) ≤ wrapA .i64 (hi * (4294967296 : Int)) + lo ∧ wrapA .i64 (hi * (4294967296 :
  Int)) + lo ≤ (9223372036854775807 : Int)) ∧ ((0 : Int) ≤ (8 : Int) ∧ (8 : Int) < (64 : Int)) ∧ True ∧ ((-9223372036854775808 : Int) ≤ Int.ofNat (b 8) ∧ Int.ofNat (b 8) ≤
  (9223372036854775807 : Int)) ∧ ((-9223372036854775808 : Int) ≤ (9 : Int) + Int.ofNat (b 8) ∧ (9 : Int) + Int.ofNat (b 8) ≤ (9223372036854775807 : Int)) ∧ ((0 : Int) ≤ (9 : Int) ∧
  (0 : Int) ≤ (9 : Int) + Int.ofNat (b 8) ∧ 9 ≤ Int.toNat ((9 : Int) + Int.ofNat (b 8)) ∧ Int.toNat ((9 : Int) + Int.ofNat (b 8)) ≤ 64) ∧ U8s (Int.toNat ((9 : Int) + Int.ofNat (b
  8)) - 9) (shiftF 9 (byF b)) ∧ (!decide ((256 : Int) < hi)) = false ∧ (!decide ((256 : Int) < hi)) = false ∧ (!decide ((256 : Int) < hi)) = false ∧ decide ((256 : Int) < hi) = true
  ∧ K (Res.rv (AV.agg [AV.i .i64 (0 : Int), AV.s []]) { tree := z1 (AObj.cells 45 2 [AV.i .i64 (0 : Int), AV.s []] (z1 (AV.i .i64 (0 : Int)) (zl (AV.s [])) T.e)) (zl (AObj.cells 45 2 [AV.i .i64 (0 : Int), AV.s []] (z1 (AV.i .i64 (wrapA .i64 (hi * (4294967296 : Int)) + lo)) (zl (AV.s (bytesF (Int.toNat ((9 : Int) + Int.ofNat (b 8)) - 9) (shiftF 9 (byF b))))) T.e))) T.e, next := 2, log := [0, 1, 1, 0] })
  Orc.z) := by kernel_rfl
theorem rlookS_vc (lo : Int) (hi : Int) (b : Nat → Nat) (h8 : decide ((51 : Int) < Int.ofNat (b 8)) = false) (hh : decide ((256 : Int) < hi) = false) (h1 : decide (wrapA .i64 (hi *
  (4294967296 : Int)) + lo < (1 : Int)) = true) (K : Res → Orc → Prop) : runK Tryd.prog 1000000 (.call 31 [.sv 1 64 (byF b)] (mkH [])) (Orc.c (Orc.c (Orc.c (Orc.c (Orc.c (Orc.f
  (Orc.cal [] (AV.tup [AV.i .u32 lo, AV.b true]) [] (Orc.cal [] (AV.tup [AV.i .u32 hi, AV.b true]) [] (Orc.t (Orc.t (Orc.t (Orc.f (Orc.f (Orc.f (Orc.f (Orc.t (Orc.c
  Orc.z))))))))))))))))) K = (((0 : Int) ≤ (8 : Int) ∧ (8 : Int) < (64 : Int)) ∧ True ∧ decide ((51 : Int) < Int.ofNat (b 8)) = false ∧ Con Tryd.prog 44 [AV.sv 1 64 (byF b)] []
  (AV.tup [AV.i .u32 lo, AV.b true]) [] ∧ ((0 : Int) ≤ (4 : Int) ∧ True ∧ 4 ≤ 64 ∧ 64 ≤ 64) ∧ Con Tryd.prog 44 [AV.sv 1 60 (shiftF 4 (byF b))] [] (AV.tup [AV.i .u32 hi, AV.b true])
  [] ∧ ((-9223372036854775808 : Int) ≤ hi ∧ hi ≤ (9223372036854775807 : Int)) ∧ True ∧ ((-9223372036854775808 : Int) ≤ lo ∧ lo ≤ (9223372036854775807 : Int)) ∧
  ((-9223372036854775808 : Int) ≤ wrapA .i64 (hi * (4294967296 : Int)) + lo ∧ wrapA .i64 (hi * (4294967296 : Int)) + lo ≤ (9223372036854775807 : Int)) ∧ ((0 : Int) ≤ (8 : Int) ∧ (8
  : Int) < (64 : Int)) ∧ True ∧ ((-9223372036854775808 : Int) ≤ Int.ofNat (b 8) ∧ Int.ofNat (b 8) ≤ (9223372036854775807 : Int)) ∧ ((-9223372036854775808 : Int) ≤ (9 : Int) +
  Int.ofNat (b 8) ∧ (9 : Int) + Int.ofNat (b 8) ≤ (9223372036854775807 : Int)) ∧ ((0 : Int) ≤ (9 : Int) ∧ (0 : Int) ≤ (9 : Int) + Int.ofNat (b 8) ∧ 9 ≤ Int.toNat ((9 : Int) +
  Int.ofNat (b 8)) ∧ Int.toNat ((9 : Int) + Int.ofNat (b 8)) ≤ 64) ∧ U8s (Int.toNat ((9 : Int) + Int.ofNat (b 8)) - 9) (shiftF 9 (byF b)) ∧ (!decide ((256 : Int) < hi)) = true ∧
  True ∧ (!decide ((256 : Int) < hi)) = true ∧ (!decide ((256 : Int) < hi)) = true ∧ decide ((256 : Int) < hi) = false ∧ (!decide (wrapA .i64 (hi * (4294967296 : Int)) + lo < (1 :
  Int))) = false ∧ (!decide (wrapA .i64 (hi * (4294967296 : Int)) + lo < (1 : Int))) = false ∧ (!decide (wrapA .i64 (hi * (4294967296 : Int)) + lo < (1 : Int))) = false ∧ decide
  (wrapA .i64 (hi * (4294967296 : Int)) + lo < (1 : Int)) = true ∧ K (Res.rv (AV.agg [AV.i .i64 (0 : Int), AV.s []]) { tree := z1 (AObj.cells 45 2 [AV.i .i64 (0 : Int), AV.s []] (z1 (AV.i .i64 (0 : Int)) (zl (AV.s [])) T.e)) (zl (AObj.cells 45 2 [AV.i .i64 (0 : Int), AV.s []] (z1 (AV.i .i64 (wrapA .i64 (hi * (4294967296 : Int)) + lo)) (zl (AV.s (bytesF (Int.toNat ((9 : Int) + Int.ofNat (b 8)) - 9) (shiftF 9 (byF b))))) T.e))) T.e, next := 2, log := [0, 1, 1, 0] })
  Orc.z) := by kernel_rfl
theorem rlookM_vc (lo : Int) (hi : Int) (b : Nat → Nat) (h8 : decide ((51 : Int) < Int.ofNat (b 8)) = false) (hh : decide ((256 : Int) < hi) = false) (h1 : decide (wrapA .i64 (hi *
  (4294967296 : Int)) + lo < (1 : Int)) = false) (h2 : decide ((1099511627776 : Int) < wrapA .i64 (hi * (4294967296 : Int)) + lo) = true) (K : Res → Orc → Prop) : runK Tryd.prog
  1000000 (.call 31 [.sv 1 64 (byF b)] (mkH [])) (Orc.c (Orc.c (Orc.c (Orc.c (Orc.c (Orc.f (Orc.cal [] (AV.tup [AV.i .u32 lo, AV.b true]) [] (Orc.cal [] (AV.tup [AV.i .u32 hi, AV.b
  true]) [] (Orc.t (Orc.t (Orc.t (Orc.f (Orc.t (Orc.t (Orc.t (Orc.f (Orc.t Orc.z))))))))))))))))) K = (((0 : Int) ≤ (8 : Int) ∧ (8 : Int) < (64 : Int)) ∧ True ∧ decide ((51 : Int) <
  Int.ofNat (b 8)) = false ∧ Con Tryd.prog 44 [AV.sv 1 64 (byF b)] [] (AV.tup [AV.i .u32 lo, AV.b true]) [] ∧ ((0 : Int) ≤ (4 : Int) ∧ True ∧ 4 ≤ 64 ∧ 64 ≤ 64) ∧ Con Tryd.prog 44
  [AV.sv 1 60 (shiftF 4 (byF b))] [] (AV.tup [AV.i .u32 hi, AV.b true]) [] ∧ ((-9223372036854775808 : Int) ≤ hi ∧ hi ≤ (9223372036854775807 : Int)) ∧ True ∧ ((-9223372036854775808 :
  Int) ≤ lo ∧ lo ≤ (9223372036854775807 : Int)) ∧ ((-9223372036854775808 : Int) ≤ wrapA .i64 (hi * (4294967296 : Int)) + lo ∧ wrapA .i64 (hi * (4294967296 : Int)) + lo ≤
  (9223372036854775807 : Int)) ∧ ((0 : Int) ≤ (8 : Int) ∧ (8 : Int) < (64 : Int)) ∧ True ∧ ((-9223372036854775808 : Int) ≤ Int.ofNat (b 8) ∧ Int.ofNat (b 8) ≤ (9223372036854775807 :
  Int)) ∧ ((-9223372036854775808 : Int) ≤ (9 : Int) + Int.ofNat (b 8) ∧ (9 : Int) + Int.ofNat (b 8) ≤ (9223372036854775807 : Int)) ∧ ((0 : Int) ≤ (9 : Int) ∧ (0 : Int) ≤ (9 : Int) +
  Int.ofNat (b 8) ∧ 9 ≤ Int.toNat ((9 : Int) + Int.ofNat (b 8)) ∧ Int.toNat ((9 : Int) + Int.ofNat (b 8)) ≤ 64) ∧ U8s (Int.toNat ((9 : Int) + Int.ofNat (b 8)) - 9) (shiftF 9 (byF
  b)) ∧ (!decide ((256 : Int) < hi)) = true ∧ True ∧ (!decide ((256 : Int) < hi)) = true ∧ (!decide ((256 : Int) < hi)) = true ∧ decide ((256 : Int) < hi) = false ∧ (!decide (wrapA
  .i64 (hi * (4294967296 : Int)) + lo < (1 : Int))) = true ∧ True ∧ (!decide (wrapA .i64 (hi * (4294967296 : Int)) + lo < (1 : Int))) = true ∧ (!decide (wrapA .i64 (hi * (4294967296
  : Int)) + lo < (1 : Int))) = true ∧ decide (wrapA .i64 (hi * (4294967296 : Int)) + lo < (1 : Int)) = false ∧ decide ((1099511627776 : Int) < wrapA .i64 (hi * (4294967296 : Int)) +
  lo) = true ∧ K (Res.rv (AV.agg [AV.i .i64 (0 : Int), AV.s []]) { tree := z1 (AObj.cells 45 2 [AV.i .i64 (0 : Int), AV.s []] (z1 (AV.i .i64 (0 : Int)) (zl (AV.s [])) T.e)) (zl (AObj.cells 45 2 [AV.i .i64 (0 : Int), AV.s []] (z1 (AV.i .i64 (wrapA .i64 (hi * (4294967296 : Int)) + lo)) (zl (AV.s (bytesF (Int.toNat ((9 : Int) + Int.ofNat (b 8)) - 9) (shiftF 9 (byF b))))) T.e))) T.e, next := 2, log := [0, 1, 1, 0] })
  Orc.z) := by kernel_rfl
theorem rlookE_vc (lo : Int) (hi : Int) (b : Nat → Nat) (sb : Nat → Nat) (h8 : decide ((51 : Int) < Int.ofNat (b 8)) = false) (hh : decide ((256 : Int) < hi) = false) (h1 : decide
  (wrapA .i64 (hi * (4294967296 : Int)) + lo < (1 : Int)) = false) (h2 : decide ((1099511627776 : Int) < wrapA .i64 (hi * (4294967296 : Int)) + lo) = false) (K : Res → Orc → Prop) :
  runK Tryd.prog 1000000 (.call 31 [.sv 1 64 (byF b)] (mkH [])) (Orc.c (Orc.c (Orc.c (Orc.c (Orc.c (Orc.f (Orc.cal [] (AV.tup [AV.i .u32 lo, AV.b true]) [] (Orc.cal [] (AV.tup [AV.i
  .u32 hi, AV.b true]) [] (Orc.t (Orc.t (Orc.t (Orc.f (Orc.t (Orc.t (Orc.t (Orc.f (Orc.f (Orc.cal [] (AV.sv 1 64 (byF sb)) [] (Orc.s Orc.z Orc.z))))))))))))))))))) K = (((0 : Int) ≤
  (8 : Int) ∧ (8 : Int) < (64 : Int)) ∧ True ∧ decide ((51 : Int) < Int.ofNat (b 8)) = false ∧ Con Tryd.prog 44 [AV.sv 1 64 (byF b)] [] (AV.tup [AV.i .u32 lo, AV.b true]) [] ∧ ((0 :
  Int) ≤ (4 : Int) ∧ True ∧ 4 ≤ 64 ∧ 64 ≤ 64) ∧ Con Tryd.prog 44 [AV.sv 1 60 (shiftF 4 (byF b))] [] (AV.tup [AV.i .u32 hi, AV.b true]) [] ∧ ((-9223372036854775808 : Int) ≤ hi ∧ hi ≤
  (9223372036854775807 : Int)) ∧ True ∧ ((-9223372036854775808 : Int) ≤ lo ∧ lo ≤ (9223372036854775807 : Int)) ∧ ((-9223372036854775808 : Int) ≤ wrapA .i64 (hi * (4294967296 : Int))
  + lo ∧ wrapA .i64 (hi * (4294967296 : Int)) + lo ≤ (9223372036854775807 : Int)) ∧ ((0 : Int) ≤ (8 : Int) ∧ (8 : Int) < (64 : Int)) ∧ True ∧ ((-9223372036854775808 : Int) ≤
  Int.ofNat (b 8) ∧ Int.ofNat (b 8) ≤ (9223372036854775807 : Int)) ∧ ((-9223372036854775808 : Int) ≤ (9 : Int) + Int.ofNat (b 8) ∧ (9 : Int) + Int.ofNat (b 8) ≤ (9223372036854775807
  : Int)) ∧ ((0 : Int) ≤ (9 : Int) ∧ (0 : Int) ≤ (9 : Int) + Int.ofNat (b 8) ∧ 9 ≤ Int.toNat ((9 : Int) + Int.ofNat (b 8)) ∧ Int.toNat ((9 : Int) + Int.ofNat (b 8)) ≤ 64) ∧ U8s
  (Int.toNat ((9 : Int) + Int.ofNat (b 8)) - 9) (shiftF 9 (byF b)) ∧ (!decide ((256 : Int) < hi)) = true ∧ True ∧ (!decide ((256 : Int) < hi)) = true ∧ (!decide ((256 : Int) < hi))
  = true ∧ decide ((256 : Int) < hi) = false ∧ (!decide (wrapA .i64 (hi * (4294967296 : Int)) + lo < (1 : Int))) = true ∧ True ∧ (!decide (wrapA .i64 (hi * (4294967296 : Int)) + lo
  < (1 : Int))) = true ∧ (!decide (wrapA .i64 (hi * (4294967296 : Int)) + lo < (1 : Int))) = true ∧ decide (wrapA .i64 (hi * (4294967296 : Int)) + lo < (1 : Int)) = false ∧ decide
  ((1099511627776 : Int) < wrapA .i64 (hi * (4294967296 : Int)) + lo) = false ∧ Con Tryd.prog 39 [AV.agg [AV.i .i64 (wrapA .i64 (hi * (4294967296 : Int)) + lo), AV.s (bytesF
  (Int.toNat ((9 : Int) + Int.ofNat (b 8)) - 9) (shiftF 9 (byF b)))]] [] (AV.sv 1 64 (byF sb)) [] ∧ U8s 64 (byF sb) ∧ U8s 64 (byF b) ∧ ((!natsEq (bytesF 64 (byF sb)) (bytesF 64 (byF
  b))) = true → K (Res.rv (AV.agg [AV.i .i64 (0 : Int), AV.s []]) { tree := z1 (AObj.cells 45 2 [AV.i .i64 (0 : Int), AV.s []] (z1 (AV.i .i64 (0 : Int)) (zl (AV.s [])) T.e)) (zl (AObj.cells 45 2 [AV.i .i64 (0 : Int), AV.s []] (z1 (AV.i .i64 (wrapA .i64 (hi * (4294967296 : Int)) + lo)) (zl (AV.s (bytesF (Int.toNat ((9 : Int) + Int.ofNat (b 8)) - 9) (shiftF 9 (byF b))))) T.e))) T.e, next := 2, log := [0, 1, 1, 0] })
  Orc.z) ∧ ((!natsEq (bytesF 64 (byF sb)) (bytesF 64 (byF b))) = false → K (Res.rv (AV.agg [AV.i .i64 (wrapA .i64 (hi * (4294967296 : Int)) + lo), AV.s (bytesF (Int.toNat ((9 : Int)
  + Int.ofNat (b 8)) - 9) (shiftF 9 (byF b)))]) { tree := z1 (AObj.cells 45 2 [AV.i .i64 (0 : Int), AV.s []] (z1 (AV.i .i64 (wrapA .i64 (hi * (4294967296 : Int)) + lo)) (zl (AV.s (bytesF (Int.toNat ((9 : Int) + Int.ofNat (b 8)) - 9) (shiftF 9 (byF b))))) T.e)) (zl (AObj.cells 45 2 [AV.i .i64 (0 : Int), AV.s []] (z1 (AV.i .i64 (wrapA .i64 (hi * (4294967296 : Int)) + lo)) (zl (AV.s (bytesF (Int.toNat ((9 : Int) + Int.ofNat (b 8)) - 9) (shiftF 9 (byF b))))) T.e))) T.e, next := 2, log := [0, 1, 1, 0] })
  Orc.z)) := by kernel_rfl
theorem rnum_in {h l : Nat} (hl : l < 4294967296) : (-9223372036854775808 : Int) ≤ wrapA IntKind.i64 (Int.ofNat h * (4294967296 : Int)) + Int.ofNat l ∧ wrapA IntKind.i64 (Int.ofNat h * (4294967296 : Int)) + Int.ofNat l ≤ (9223372036854775807 : Int) := by
  rw [wrapA_eq, IntKind.wrap_i64]
  have : Int.ofNat h = (h : Int) := rfl
  have : Int.ofNat l = (l : Int) := rfl
  omega
theorem rnum_eq {h l : Nat} (hh : h ≤ 256) : wrapA IntKind.i64 (Int.ofNat h * (4294967296 : Int)) + Int.ofNat l = Int.ofNat (l + h * 4294967296) := by
  rw [wrapA_eq, IntKind.wrap_i64]
  have : Int.ofNat h = (h : Int) := rfl
  have : Int.ofNat l = (l : Int) := rfl
  have : Int.ofNat (l + h * 4294967296) = ((l + h * 4294967296 : Nat) : Int) := rfl
  omega
theorem u8_by (n : Nat) (b : Nat → Nat) : U8s n (byF b) := fun k _ => ⟨b k, rfl⟩
theorem u8_sh (n l : Nat) (b : Nat → Nat) : U8s n (shiftF l (byF b)) := fun k _ => ⟨b (l + k), by rw [shiftF_eq]; rfl⟩
theorem dt {p : Prop} [Decidable p] (h : p) : decide p = true := decide_eq_true h
theorem df {p : Prop} [Decidable p] (h : ¬ p) : decide p = false := decide_eq_false h
theorem ndt {p : Prop} [Decidable p] (h : ¬ p) : (!decide p) = true := by rw [df h]; rfl
theorem sel_sect (q : Nat) (d : List Nat) : selB (bodyB q d) = sectB q d := Eq.refl _
theorem rlook_con (b : Nat → Nat) (hb : ∀ k, b k < 256) : Con Tryd.prog 31 [.sv 1 64 (byF b)] [] (.agg [.i .i64 (Int.ofNat (lkQ b)), .s (lkD b)]) [] := by
  have no : okB b = false → lkQ b = 0 ∧ lkD b = [] := fun h => by unfold lkQ lkD; rw [h, cond_false, cond_false]; exact ⟨rfl, rfl⟩
  have sh : ∀ k, bOf (shiftF 4 (byF b)) k = b (4 + k) := fun k => bOf_sh b 4 k
  have e1 : four1 (bOf (byF b)) = four1 b := four1_congr fun k _ => bOf_by b k
  have e2 : four1 (bOf (shiftF 4 (byF b))) = four1 fun k => b (4 + k) := four1_congr fun k _ => sh k
  have l1 : four1 b < 4294967296 := four1_lt fun k _ => hb k
  have l2 : (four1 fun k => b (4 + k)) < 4294967296 := four1_lt fun k _ => hb _
  have r1 : (-9223372036854775808 : Int) ≤ Int.ofNat (four1 b) ∧ Int.ofNat (four1 b) ≤ (9223372036854775807 : Int) := ⟨by simp <;> omega, by simp <;> omega⟩
  have r2 : (-9223372036854775808 : Int) ≤ Int.ofNat (four1 fun k => b (4 + k)) ∧ Int.ofNat (four1 fun k => b (4 + k)) ≤ (9223372036854775807 : Int) := ⟨by simp <;> omega, by simp <;> omega⟩
  have c1 := rofFour_con 64 b (by decide) fun k _ => hb k
  have c2 : Con Tryd.prog 44 [.sv 1 60 (shiftF 4 (byF b))] [] (.tup [.i .u32 (Int.ofNat (four1 fun k => b (4 + k))), .b true]) [] :=
    (rofFour_con 60 (fun k => b (4 + k)) (by decide) fun k _ => hb _).pre ⟨.sv fun k j _ _ => by rw [shiftF_eq]; rfl, trivial⟩
  by_cases h8 : b 8 ≤ 51
  · have d8 : decide ((51 : Int) < Int.ofNat (b 8)) = false := df (by simp; omega)
    have t8 : Int.toNat ((9 : Int) + Int.ofNat (b 8)) - 9 = b 8 := by simp; omega
    have k8 : ((-9223372036854775808 : Int) ≤ Int.ofNat (b 8) ∧ Int.ofNat (b 8) ≤ (9223372036854775807 : Int)) ∧ ((-9223372036854775808 : Int) ≤ (9 : Int) + Int.ofNat (b 8) ∧ (9 : Int) + Int.ofNat (b 8) ≤ (9223372036854775807 : Int)) ∧
        ((0 : Int) ≤ (9 : Int) ∧ (0 : Int) ≤ (9 : Int) + Int.ofNat (b 8) ∧ 9 ≤ Int.toNat ((9 : Int) + Int.ofNat (b 8)) ∧ Int.toNat ((9 : Int) + Int.ofNat (b 8)) ≤ 64) := by
      refine ⟨⟨by simp <;> omega, by simp <;> omega⟩, ⟨by simp <;> omega, by simp <;> omega⟩, by decide, by simp <;> omega, by simp <;> omega, by simp <;> omega⟩
    have u8 : U8s (Int.toNat ((9 : Int) + Int.ofNat (b 8)) - 9) (shiftF 9 (byF b)) := u8_sh _ _ _
    have rg := rnum_in (h := four1 fun k => b (4 + k)) l1
    by_cases hh : (four1 fun k => b (4 + k)) ≤ 256
    · have dh : decide ((256 : Int) < Int.ofNat (four1 fun k => b (4 + k))) = false := df (by simp; omega)
      have en : wrapA IntKind.i64 (Int.ofNat (four1 fun k => b (4 + k)) * (4294967296 : Int)) + Int.ofNat (four1 b) = Int.ofNat (numN b) := by
        rw [rnum_eq hh]; unfold numN; rw [e1, e2]
      have nh : (!decide ((256 : Int) < Int.ofNat (four1 fun k => b (4 + k)))) = true := by rw [dh]; rfl
      rw [en] at rg
      have k0 : ((0 : Int) ≤ (8 : Int) ∧ (8 : Int) < (64 : Int)) := by decide
      have k4 : ((0 : Int) ≤ (4 : Int) ∧ True ∧ 4 ≤ 64 ∧ 64 ≤ 64) := by decide
      by_cases hz : numN b < 1
      · have ds : decide (Int.ofNat (numN b) < (1 : Int)) = true := dt (by simp; omega)
        have ns : (!decide (Int.ofNat (numN b) < (1 : Int))) = false := by rw [ds]; rfl
        have ok : okB b = false := by
          cases h : okB b with
          | false => rfl
          | true => have := (ok_parts h).2.2.1; omega
        rw [(no ok).1, (no ok).2]
        have vc := rlookS_vc (Int.ofNat (four1 b)) (Int.ofNat (four1 fun k => b (4 + k))) b d8 dh (by rw [en]; exact ds)
        simp only [en] at vc
        exact con_plain rfl ((vc _).mpr ⟨k0, trivial, d8, c1, k4, c2, r2, trivial, r1, rg, k0, trivial, k8.1, k8.2.1, k8.2.2, u8, nh, trivial, nh, nh, dh, ns, ns, ns, ds, _, _, rfl, rfl⟩)
      have ds : decide (Int.ofNat (numN b) < (1 : Int)) = false := df (by simp; omega)
      have ns : (!decide (Int.ofNat (numN b) < (1 : Int))) = true := by rw [ds]; rfl
      by_cases hm : numN b ≤ 1099511627776
      · have dm : decide ((1099511627776 : Int) < Int.ofNat (numN b)) = false := df (by simp; omega)
        have vc := rlookE_vc (Int.ofNat (four1 b)) (Int.ofNat (four1 fun k => b (4 + k))) b (sectB (numN b) (txtD b)) d8 dh (by rw [en]; exact ds) (by rw [en]; exact dm)
        simp only [en] at vc
        have tx : bytesF (Int.toNat ((9 : Int) + Int.ofNat (b 8)) - 9) (shiftF 9 (byF b)) = txtD b := by rw [t8]; rfl
        have lay : Con Tryd.prog 39 [.agg [.i .i64 (Int.ofNat (numN b)), .s (bytesF (Int.toNat ((9 : Int) + Int.ofNat (b 8)) - 9) (shiftF 9 (byF b)))]] [] (.sv 1 64 (byF (sectB (numN b) (txtD b)))) [] := by
          rw [tx]
          have h := rlay_con (numN b) (txtD b) (by omega) (by rw [txt_len]; exact h8) (txt_lt b)
          rw [sel_sect] at h
          exact h
        have key : natsEq (bytesF 64 (byF (sectB (numN b) (txtD b)))) (bytesF 64 (byF b)) = okB b := by
          rw [Bool.eq_iff_iff, nats_64 _ _ (fun k _ => sectB_lt (txt_lt b) k) (fun k _ => hb k)]
          exact ⟨fun h => sect_ok_of h8 (by omega) hm h, fun h => ok_sect (fun k _ => hb k) h⟩
        simp only [key] at vc
        refine con_plain rfl ((vc _).mpr ⟨k0, trivial, d8, c1, k4, c2, r2, trivial, r1, rg, k0, trivial, k8.1, k8.2.1, k8.2.2, u8, nh, trivial, nh, nh, dh, ns, trivial, ns, ns, ds, dm, lay, u8_by 64 (sectB (numN b) (txtD b)), u8_by 64 b, fun hne => ?_, fun he => ?_⟩)
        · have ok : okB b = false := by simpa using hne
          exact ⟨_, _, rfl, by rw [(no ok).1, (no ok).2]; rfl⟩
        · have ok : okB b = true := by simpa using he
          have q1 : lkQ b = numN b := by unfold lkQ; rw [ok, cond_true]
          have q2 : lkD b = txtD b := by unfold lkD; rw [ok, cond_true]
          exact ⟨_, _, rfl, by rw [q1, q2, tx]⟩
      · have dm : decide ((1099511627776 : Int) < Int.ofNat (numN b)) = true := dt (by simp; omega)
        have ok : okB b = false := by
          cases h : okB b with
          | false => rfl
          | true => have := (ok_parts h).2.2.2.1; omega
        rw [(no ok).1, (no ok).2]
        have vc := rlookM_vc (Int.ofNat (four1 b)) (Int.ofNat (four1 fun k => b (4 + k))) b d8 dh (by rw [en]; exact ds) (by rw [en]; exact dm)
        simp only [en] at vc
        exact con_plain rfl ((vc _).mpr ⟨k0, trivial, d8, c1, k4, c2, r2, trivial, r1, rg, k0, trivial, k8.1, k8.2.1, k8.2.2, u8, nh, trivial, nh, nh, dh, ns, trivial, ns, ns, ds, dm, _, _, rfl, rfl⟩)
    · have dh : decide ((256 : Int) < Int.ofNat (four1 fun k => b (4 + k))) = true := dt (by simp; omega)
      have nh : (!decide ((256 : Int) < Int.ofNat (four1 fun k => b (4 + k)))) = false := by rw [dh]; rfl
      have ok : okB b = false := by
        cases h : okB b with
        | false => rfl
        | true =>
          have := (ok_parts h).2.2.2.1
          unfold numN at this
          rw [e1, e2] at this; omega
      rw [(no ok).1, (no ok).2]
      exact con_plain rfl ((rlookH_vc _ _ b d8 dh _).mpr ⟨by decide, trivial, d8, c1, by decide, c2, r2, trivial, r1, rg, by decide, trivial, k8.1, k8.2.1, k8.2.2, u8, nh, nh, nh, dh, _, _, rfl, rfl⟩)
  · have d8 : decide ((51 : Int) < Int.ofNat (b 8)) = true := dt (by simp; omega)
    have ok : okB b = false := by
      cases h : okB b with
      | false => rfl
      | true => exact absurd (ok_parts h).2.1 h8
    rw [(no ok).1, (no ok).2]
    exact con_plain rfl ((rlook0_vc b d8 _).mpr ⟨by decide, trivial, d8, _, _, rfl, rfl⟩)
theorem rlookN_con (L : Nat) (gg : Nat → Nat → CV) (h : L ≠ 64) : Con Tryd.prog 31 [.sv 1 L gg] [] (.agg [.i .i64 0, .s []]) [] := by
  have d : (!decide (Int.ofNat L = (64 : Int))) = true := ndt (by simp; omega)
  have d2 : (!!decide (Int.ofNat L = (64 : Int))) = false := by rw [d]; rfl
  exact con_plain rfl ((rlookL_vc L gg d _).mpr ⟨d2, d2, d2, d2, d, _, _, rfl, rfl⟩)
theorem rsee_con (s : SS) (i : Int) (hb : Byt s) : Con Tryd.prog 31 [.sv 1 (s.rdN i) fun k _ => .i .u8 (s.rdB i k)] [] (.agg [.i .i64 (Int.ofNat (seeQ s i)), .s (seeD s i)]) [] := by
  by_cases h : s.rdE i = 0
  · have e1 : seeQ s i = lkQ (rdC s i) := by unfold seeQ; rw [decide_eq_true h]
    have e2 : seeD s i = lkD (rdC s i) := by unfold seeD; rw [decide_eq_true h]
    rw [e1, e2, SS.rdN_64 h]
    exact (rlook_con (rdC s i) fun k => rdC_lt hb i k).pre ⟨.sv fun k j _ _ => by show CV.i .u8 (s.rdB i k) = CV.i .u8 (Int.ofNat (rdC s i k)); rw [rdC_eq hb], trivial⟩
  · have e1 : seeQ s i = 0 := by unfold seeQ; rw [decide_eq_false h]
    have e2 : seeD s i = [] := by unfold seeD; rw [decide_eq_false h]
    rw [e1, e2, SS.rdN_0 h]
    exact rlookN_con 0 _ (by decide)
end Go.Proofs.Cl
/- The reference's cells, told by the program's state. -/
namespace Go.Proofs.Cl
open Go Go.Sim Go.Proofs Go.Proofs.St
noncomputable def valF (q : Nat → Nat) (d : Nat → List Nat) : Nat → Nat → CV := fun i j => match j with
  | 0 => .i .i64 (Int.ofNat (q i))
  | _ => .s (d i)
noncomputable def secF (b : Nat → Bool) : Nat → Nat → CV := fun i _ => .b (b i)
noncomputable def rcO (S V B n : Nat) (dead : Bool) : AObj := .cells 80 4 [] (setAll .e 0 [.p S 0, .lr V 2 0 n false, .lr B 1 0 n false, .b dead])
noncomputable def rcV (n : Nat) (q : Nat → Nat) (d : Nat → List Nat) : AObj := .rows 45 2 n (valF q d)
noncomputable def rcB (n : Nat) (b : Nat → Bool) : AObj := .rows 4 1 n (secF b)
end Go.Proofs.Cl
namespace Go.Proofs.Cl
open Go Go.Sim Go.Proofs Go.Proofs.Cd Go.Proofs.St Go.Proofs.YtiihmkiiojlcaaaDoor
theorem ropenR_vc (s : SS) (q : Nat → Nat) (d : Nat → List Nat) (bb : Nat → Bool) (rdN : Int → Nat) (rdB : Int → Nat → Int) (rdE : Int → Int) (seeQ : Int → Nat) (seeD : Int → List
  Nat) (n : Int) (k : Nat) (hk : decide (Int.ofNat k < n) = true) (K : Res → Orc → Prop) : runK Tryd.prog 1000000 (.code (loopAt Tryd.prog 9 0) 94 (mkT [(0, .p 0 0), (1, .i .i64 n),
  (6, .p 3 0), (7, .i .i64 (Int.ofNat k))]) (mkH [some (rsA 2 s), some (rsR s), some (rsP s), some (rcO 0 4 5 k false), some (rcV k q d), some (rcB k bb)])) (Orc.t (Orc.cal [0, 1,
  2] (AV.tup [AV.sv 1 (rdN ((2 : Int) * Int.ofNat k)) fun k_1 x => CV.i .u8 (rdB ((2 : Int) * Int.ofNat k) k_1), AV.i .i64 (rdE ((2 : Int) * Int.ofNat k))]) [Upd.keep, Upd.keep,
  Upd.keep] (Orc.cal [0, 1, 2] (AV.tup [AV.sv 1 (rdN ((2 : Int) * Int.ofNat k + (1 : Int))) fun k_1 x => CV.i .u8 (rdB ((2 : Int) * Int.ofNat k + (1 : Int)) k_1), AV.i .i64 (rdE ((2
  : Int) * Int.ofNat k + (1 : Int)))]) [Upd.keep, Upd.keep, Upd.keep] (Orc.cal [] (AV.agg [AV.i .i64 (Int.ofNat (seeQ ((2 : Int) * Int.ofNat k))), AV.s (seeD ((2 : Int) * Int.ofNat
  k))]) [] (Orc.cal [] (AV.agg [AV.i .i64 (Int.ofNat (seeQ ((2 : Int) * Int.ofNat k + (1 : Int)))), AV.s (seeD ((2 : Int) * Int.ofNat k + (1 : Int)))]) [] (Orc.s Orc.z Orc.z)))))) K
  = (decide (Int.ofNat k < n) = true ∧ ((-9223372036854775808 : Int) ≤ (2 : Int) * Int.ofNat k ∧ (2 : Int) * Int.ofNat k ≤ (9223372036854775807 : Int)) ∧ Con Tryd.prog 30 [AV.p 0 0,
  AV.i .i64 ((2 : Int) * Int.ofNat k)] [some (rsA 2 s), some (rsR s), some (rsP s)] (AV.tup [AV.sv 1 (rdN ((2 : Int) * Int.ofNat k)) fun k_1 x => CV.i .u8 (rdB ((2 : Int) *
  Int.ofNat k) k_1), AV.i .i64 (rdE ((2 : Int) * Int.ofNat k))]) [Upd.keep, Upd.keep, Upd.keep] ∧ ((-9223372036854775808 : Int) ≤ (2 : Int) * Int.ofNat k ∧ (2 : Int) * Int.ofNat k ≤
  (9223372036854775807 : Int)) ∧ ((-9223372036854775808 : Int) ≤ (2 : Int) * Int.ofNat k + (1 : Int) ∧ (2 : Int) * Int.ofNat k + (1 : Int) ≤ (9223372036854775807 : Int)) ∧ Con
  Tryd.prog 30 [AV.p 0 0, AV.i .i64 ((2 : Int) * Int.ofNat k + (1 : Int))] [some (rsA 2 s), some (rsR s), some (rsP s)] (AV.tup [AV.sv 1 (rdN ((2 : Int) * Int.ofNat k + (1 : Int)))
  fun k_1 x => CV.i .u8 (rdB ((2 : Int) * Int.ofNat k + (1 : Int)) k_1), AV.i .i64 (rdE ((2 : Int) * Int.ofNat k + (1 : Int)))]) [Upd.keep, Upd.keep, Upd.keep] ∧ Con Tryd.prog 31
  [AV.sv 1 (rdN ((2 : Int) * Int.ofNat k)) fun k_1 x => CV.i .u8 (rdB ((2 : Int) * Int.ofNat k) k_1)] [] (AV.agg [AV.i .i64 (Int.ofNat (seeQ ((2 : Int) * Int.ofNat k))), AV.s (seeD
  ((2 : Int) * Int.ofNat k))]) [] ∧ Con Tryd.prog 31 [AV.sv 1 (rdN ((2 : Int) * Int.ofNat k + (1 : Int))) fun k_1 x => CV.i .u8 (rdB ((2 : Int) * Int.ofNat k + (1 : Int)) k_1)] []
  (AV.agg [AV.i .i64 (Int.ofNat (seeQ ((2 : Int) * Int.ofNat k + (1 : Int)))), AV.s (seeD ((2 : Int) * Int.ofNat k + (1 : Int)))]) [] ∧ True ∧ True ∧ (decide (Int.ofNat (seeQ ((2 :
  Int) * Int.ofNat k)) < Int.ofNat (seeQ ((2 : Int) * Int.ofNat k + (1 : Int)))) = true → True ∧ (0 + k ≤ k ∧ True ∧ k + 1 ≤ 140737488355328 ∧ (3 * (k + 1) + 1536) * 24 ≤
  562949953421312) ∧ True ∧ True ∧ (0 + k ≤ k ∧ True ∧ k + 1 ≤ 140737488355328 ∧ (3 * (k + 1) + 1536) * 1 ≤ 562949953421312) ∧ True ∧ ((-9223372036854775808 : Int) ≤ Int.ofNat k +
  (1 : Int) ∧ Int.ofNat k + (1 : Int) ≤ (9223372036854775807 : Int)) ∧ K (Res.st XO.nrm (z1 (AV.p 0 0) (z1 (AV.i .i64 n) (z0 (z1 (AV.i .i64 (Int.ofNat k + (1 : Int))) (z0 (z0 (zl
  (AV.agg [AV.i .i64 (Int.ofNat (seeQ ((2 : Int) * Int.ofNat k))), AV.s (seeD ((2 : Int) * Int.ofNat k))])) T.e) (z1 (AV.tup [AV.sv 1 (rdN ((2 : Int) * Int.ofNat k)) fun k_1 x =>
  CV.i .u8 (rdB ((2 : Int) * Int.ofNat k) k_1), AV.i .i64 (rdE ((2 : Int) * Int.ofNat k))]) (zl (AV.l 8 0 1 1 2 true)) T.e)) (z0 (z0 (zl (AV.b (decide (Int.ofNat (seeQ ((2 : Int) *
  Int.ofNat k)) < Int.ofNat (seeQ ((2 : Int) * Int.ofNat k + (1 : Int))))))) T.e) (z1 (AV.p 0 0) (zl (AV.lr 5 1 0 k false)) T.e))) (z1 (AV.i .i64 (rdE ((2 : Int) * Int.ofNat k + (1
  : Int)))) (z0 (z0 (zl (AV.i .i64 (Int.ofNat (seeQ ((2 : Int) * Int.ofNat k + (1 : Int)))))) T.e) (z1 (AV.tup [AV.sv 1 (rdN ((2 : Int) * Int.ofNat k)) fun k_1 x => CV.i .u8 (rdB
  ((2 : Int) * Int.ofNat k) k_1), AV.i .i64 (rdE ((2 : Int) * Int.ofNat k))]) (zl (AV.p 3 0)) T.e)) (z0 (z1 (AV.i .i64 n) (zl (AV.p 3 0)) T.e) (z1 (AV.tup [AV.sv 1 (rdN ((2 : Int) *
  Int.ofNat k + (1 : Int))) fun k_1 x => CV.i .u8 (rdB ((2 : Int) * Int.ofNat k + (1 : Int)) k_1), AV.i .i64 (rdE ((2 : Int) * Int.ofNat k + (1 : Int)))]) (zl (AV.p 3 0)) T.e))))
  (z0 (z1 (AV.i .i64 (rdE ((2 : Int) * Int.ofNat k))) (z0 (z0 (zl (AV.agg [AV.i .i64 (Int.ofNat (seeQ ((2 : Int) * Int.ofNat k + (1 : Int)))), AV.s (seeD ((2 : Int) * Int.ofNat k +
  (1 : Int)))])) T.e) (z1 (AV.i .i64 (Int.ofNat k)) (zl (AV.p 3 0)) T.e)) (z0 (z0 (zl (AV.p 3 0)) T.e) (z1 (AV.i .i64 ((2 : Int) * Int.ofNat k)) (zl (AV.l 10 0 1 1 1 true)) T.e)))
  (z1 (AV.p 7 0) (z0 (z0 (zl (AV.i .i64 (Int.ofNat (seeQ ((2 : Int) * Int.ofNat k))))) T.e) (z1 (AV.i .i64 (rdE ((2 : Int) * Int.ofNat k))) (zl (AV.p 3 0)) T.e)) (z0 (z1 (AV.i .i64
  (Int.ofNat k)) (zl (AV.lr 4 2 0 k false)) T.e) (zl (AV.i .i64 (rdE ((2 : Int) * Int.ofNat k + (1 : Int))))))))) (z0 (z0 (z1 (AV.sv 1 (rdN ((2 : Int) * Int.ofNat k)) fun k_1 x =>
  CV.i .u8 (rdB ((2 : Int) * Int.ofNat k) k_1)) (z0 (z0 (zl (AV.sv 1 (rdN ((2 : Int) * Int.ofNat k + (1 : Int))) fun k_1 x => CV.i .u8 (rdB ((2 : Int) * Int.ofNat k + (1 : Int))
  k_1))) T.e) (z1 (AV.p 0 0) (zl (AV.lr 9 2 0 (addN k 1) false)) T.e)) (z0 (z0 (zl (AV.agg [AV.i .i64 (Int.ofNat (seeQ ((2 : Int) * Int.ofNat k + (1 : Int)))), AV.s (seeD ((2 : Int)
  * Int.ofNat k + (1 : Int)))])) T.e) (z1 (AV.i .i64 (Int.ofNat k)) (zl (AV.b (decide (Int.ofNat (seeQ ((2 : Int) * Int.ofNat k)) < Int.ofNat (seeQ ((2 : Int) * Int.ofNat k + (1 :
  Int))))))) T.e))) (z1 (AV.p 6 0) (z0 (z0 (zl (AV.p 6 0)) T.e) (z1 (AV.sv 1 (rdN ((2 : Int) * Int.ofNat k)) fun k_1 x => CV.i .u8 (rdB ((2 : Int) * Int.ofNat k) k_1)) (zl (AV.p 3
  0)) T.e)) (z0 (z1 (AV.b (decide (Int.ofNat k < n))) (zl (AV.p 3 1)) T.e) (z1 (AV.sv 1 (rdN ((2 : Int) * Int.ofNat k + (1 : Int))) fun k_1 x => CV.i .u8 (rdB ((2 : Int) * Int.ofNat
  k + (1 : Int)) k_1)) (zl (AV.p 3 2)) T.e)))) (z1 (AV.p 3 0) (z1 (AV.sv 1 (rdN ((2 : Int) * Int.ofNat k + (1 : Int))) fun k_1 x => CV.i .u8 (rdB ((2 : Int) * Int.ofNat k + (1 :
  Int)) k_1)) (z0 (z0 (zl (AV.p 7 0)) T.e) (z1 (AV.i .i64 ((2 : Int) * Int.ofNat k)) (zl (AV.p 3 1)) T.e)) (z0 (z1 (AV.i .i64 (Int.ofNat k)) (zl (AV.p 3 0)) T.e) (z1 (AV.i .i64 ((2
  : Int) * Int.ofNat k + (1 : Int))) (zl (AV.lr 11 1 0 (addN k 1) false)) T.e))) (z1 (AV.b (decide (Int.ofNat (seeQ ((2 : Int) * Int.ofNat k)) < Int.ofNat (seeQ ((2 : Int) *
  Int.ofNat k + (1 : Int)))))) (z0 (z0 (zl (AV.b (decide (Int.ofNat (seeQ ((2 : Int) * Int.ofNat k)) < Int.ofNat (seeQ ((2 : Int) * Int.ofNat k + (1 : Int))))))) T.e) (z1 (AV.tup
  [AV.sv 1 (rdN ((2 : Int) * Int.ofNat k + (1 : Int))) fun k_1 x => CV.i .u8 (rdB ((2 : Int) * Int.ofNat k + (1 : Int)) k_1), AV.i .i64 (rdE ((2 : Int) * Int.ofNat k + (1 : Int)))])
  (zl (AV.p 3 2)) T.e)) (z0 (z1 (AV.i .i64 (Int.ofNat k + (1 : Int))) (zl (AV.agg [AV.i .i64 (Int.ofNat (seeQ ((2 : Int) * Int.ofNat k + (1 : Int)))), AV.s (seeD ((2 : Int) *
  Int.ofNat k + (1 : Int)))])) T.e) (zl (AV.sv 1 (rdN ((2 : Int) * Int.ofNat k)) fun k_1 x => CV.i .u8 (rdB ((2 : Int) * Int.ofNat k) k_1)))))))) { tree := z1 (AObj.cells 51 5 [] (z1 (AV.lr 1 1 0 (SS.n s) false) (z1 (AV.lr 2 2 0 (List.length (SS.P s)) false) (zl (AV.i .i64 (SS.am s))) T.e) (z1 (AV.i .i64 (Int.ofNat (SS.wr s))) (zl (AV.b (SS.off s))) T.e))) (z1 (AObj.rows 55 1 (SS.n s) (imgF s)) (z1 (AObj.cells 80 4 [] (z1 (AV.p 0 0) (z1 (AV.lr 9 2 0 (addN k 1) false) (zl (AV.b false)) T.e) (zl (AV.lr 11 1 0 (addN k 1) false)))) (zl (AObj.cells 45 2 [AV.i .i64 (0 : Int), AV.s []] (z1 (AV.i .i64 (Int.ofNat (seeQ ((2 : Int) * Int.ofNat k + (1 : Int))))) (zl (AV.s (seeD ((2 : Int) * Int.ofNat k + (1 : Int))))) T.e))) (zl (AObj.rows 4 1 (addN k 1) (appZ k (secF bb) fun x j => List.getD [CV.b (decide (Int.ofNat (seeQ ((2 : Int) * Int.ofNat k)) < Int.ofNat (seeQ ((2 : Int) * Int.ofNat k + (1 : Int)))))] j CV.p0)))) (z0 (zl (AObj.rows 45 2 (addN k 1) (appZ k (valF q d) fun x j => List.getD [CV.i .i64 (Int.ofNat (seeQ ((2 : Int) * Int.ofNat k + (1 : Int)))), CV.s (seeD ((2 : Int) * Int.ofNat k + (1 : Int)))] j CV.p0))) T.e)) (z1 (AObj.rows 91 2 (List.length (SS.P s)) (penF (oA (SS.P s)) (oB (SS.P s)))) (z0 (zl (AObj.cells 45 2 [] (z1 (AV.i .i64 (Int.ofNat (seeQ ((2 : Int) * Int.ofNat k + (1 : Int))))) (zl (AV.s (seeD ((2 : Int) * Int.ofNat k + (1 : Int))))) T.e))) T.e) (z1 (AObj.cells 45 2 [AV.i .i64 (0 : Int), AV.s []] (z1 (AV.i .i64 (Int.ofNat (seeQ ((2 : Int) * Int.ofNat k + (1 : Int))))) (zl (AV.s (seeD ((2 : Int) * Int.ofNat k + (1 : Int))))) T.e)) (zl (AObj.cells 4 1 [] (zl (AV.b (decide (Int.ofNat (seeQ ((2 : Int) * Int.ofNat k)) < Int.ofNat (seeQ ((2 : Int) * Int.ofNat k + (1 : Int))))))))) T.e)), next := 12, log := [3, 11, 5, 10, 3, 9, 4, 8, 6, 7, 7, 6, 6] })
  Orc.z) ∧ (decide (Int.ofNat (seeQ ((2 : Int) * Int.ofNat k)) < Int.ofNat (seeQ ((2 : Int) * Int.ofNat k + (1 : Int)))) = false → True ∧ (0 + k ≤ k ∧ True ∧ k + 1 ≤ 140737488355328
  ∧ (3 * (k + 1) + 1536) * 24 ≤ 562949953421312) ∧ True ∧ True ∧ (0 + k ≤ k ∧ True ∧ k + 1 ≤ 140737488355328 ∧ (3 * (k + 1) + 1536) * 1 ≤ 562949953421312) ∧ True ∧
  ((-9223372036854775808 : Int) ≤ Int.ofNat k + (1 : Int) ∧ Int.ofNat k + (1 : Int) ≤ (9223372036854775807 : Int)) ∧ K (Res.st XO.nrm (z1 (AV.p 0 0) (z1 (AV.i .i64 n) (z0 (z1 (AV.i
  .i64 (Int.ofNat k + (1 : Int))) (z0 (z0 (zl (AV.agg [AV.i .i64 (Int.ofNat (seeQ ((2 : Int) * Int.ofNat k))), AV.s (seeD ((2 : Int) * Int.ofNat k))])) T.e) (z1 (AV.tup [AV.sv 1
  (rdN ((2 : Int) * Int.ofNat k)) fun k_1 x => CV.i .u8 (rdB ((2 : Int) * Int.ofNat k) k_1), AV.i .i64 (rdE ((2 : Int) * Int.ofNat k))]) (zl (AV.l 8 0 1 1 2 true)) T.e)) (z0 (z0 (zl
  (AV.b (decide (Int.ofNat (seeQ ((2 : Int) * Int.ofNat k)) < Int.ofNat (seeQ ((2 : Int) * Int.ofNat k + (1 : Int))))))) T.e) (z1 (AV.p 0 0) (zl (AV.lr 5 1 0 k false)) T.e))) (z1
  (AV.i .i64 (rdE ((2 : Int) * Int.ofNat k + (1 : Int)))) (z0 (z0 (zl (AV.i .i64 (Int.ofNat (seeQ ((2 : Int) * Int.ofNat k + (1 : Int)))))) T.e) (z1 (AV.tup [AV.sv 1 (rdN ((2 : Int)
  * Int.ofNat k)) fun k_1 x => CV.i .u8 (rdB ((2 : Int) * Int.ofNat k) k_1), AV.i .i64 (rdE ((2 : Int) * Int.ofNat k))]) (zl (AV.p 3 0)) T.e)) (z0 (z1 (AV.i .i64 n) (zl (AV.p 3 0))
  T.e) (z1 (AV.tup [AV.sv 1 (rdN ((2 : Int) * Int.ofNat k + (1 : Int))) fun k_1 x => CV.i .u8 (rdB ((2 : Int) * Int.ofNat k + (1 : Int)) k_1), AV.i .i64 (rdE ((2 : Int) * Int.ofNat
  k + (1 : Int)))]) (zl (AV.p 3 0)) T.e)))) (z0 (z1 (AV.i .i64 (rdE ((2 : Int) * Int.ofNat k))) (z0 (z0 (zl (AV.agg [AV.i .i64 (Int.ofNat (seeQ ((2 : Int) * Int.ofNat k + (1 :
  Int)))), AV.s (seeD ((2 : Int) * Int.ofNat k + (1 : Int)))])) T.e) (z1 (AV.i .i64 (Int.ofNat k)) (zl (AV.p 3 0)) T.e)) (z0 (z0 (zl (AV.p 3 0)) T.e) (z1 (AV.i .i64 ((2 : Int) *
  Int.ofNat k)) (zl (AV.l 10 0 1 1 1 true)) T.e))) (z1 (AV.p 7 0) (z0 (z0 (zl (AV.i .i64 (Int.ofNat (seeQ ((2 : Int) * Int.ofNat k))))) T.e) (z1 (AV.i .i64 (rdE ((2 : Int) *
  Int.ofNat k))) (zl (AV.p 3 0)) T.e)) (z0 (z1 (AV.i .i64 (Int.ofNat k)) (zl (AV.lr 4 2 0 k false)) T.e) (zl (AV.i .i64 (rdE ((2 : Int) * Int.ofNat k + (1 : Int))))))))) (z0 (z0 (z1
  (AV.sv 1 (rdN ((2 : Int) * Int.ofNat k)) fun k_1 x => CV.i .u8 (rdB ((2 : Int) * Int.ofNat k) k_1)) (z0 (z0 (zl (AV.sv 1 (rdN ((2 : Int) * Int.ofNat k + (1 : Int))) fun k_1 x =>
  CV.i .u8 (rdB ((2 : Int) * Int.ofNat k + (1 : Int)) k_1))) T.e) (z1 (AV.p 0 0) (zl (AV.lr 9 2 0 (addN k 1) false)) T.e)) (z0 T.e (z1 (AV.i .i64 (Int.ofNat k)) (zl (AV.b (decide
  (Int.ofNat (seeQ ((2 : Int) * Int.ofNat k)) < Int.ofNat (seeQ ((2 : Int) * Int.ofNat k + (1 : Int))))))) T.e))) (z1 (AV.p 6 0) (z0 (z0 (zl (AV.p 6 0)) T.e) (z1 (AV.sv 1 (rdN ((2 :
  Int) * Int.ofNat k)) fun k_1 x => CV.i .u8 (rdB ((2 : Int) * Int.ofNat k) k_1)) (zl (AV.p 3 0)) T.e)) (z0 (z1 (AV.b (decide (Int.ofNat k < n))) (zl (AV.p 3 1)) T.e) (z1 (AV.sv 1
  (rdN ((2 : Int) * Int.ofNat k + (1 : Int))) fun k_1 x => CV.i .u8 (rdB ((2 : Int) * Int.ofNat k + (1 : Int)) k_1)) (zl (AV.p 3 2)) T.e)))) (z1 (AV.p 3 0) (z1 (AV.sv 1 (rdN ((2 :
  Int) * Int.ofNat k + (1 : Int))) fun k_1 x => CV.i .u8 (rdB ((2 : Int) * Int.ofNat k + (1 : Int)) k_1)) (z0 (z0 (zl (AV.p 7 0)) T.e) (z1 (AV.i .i64 ((2 : Int) * Int.ofNat k)) (zl
  (AV.p 3 1)) T.e)) (z0 (z1 (AV.i .i64 (Int.ofNat k)) (zl (AV.p 3 0)) T.e) (z1 (AV.i .i64 ((2 : Int) * Int.ofNat k + (1 : Int))) (zl (AV.lr 11 1 0 (addN k 1) false)) T.e))) (z1
  (AV.b (decide (Int.ofNat (seeQ ((2 : Int) * Int.ofNat k)) < Int.ofNat (seeQ ((2 : Int) * Int.ofNat k + (1 : Int)))))) (z0 (z0 (zl (AV.b (decide (Int.ofNat (seeQ ((2 : Int) *
  Int.ofNat k)) < Int.ofNat (seeQ ((2 : Int) * Int.ofNat k + (1 : Int))))))) T.e) (z1 (AV.tup [AV.sv 1 (rdN ((2 : Int) * Int.ofNat k + (1 : Int))) fun k_1 x => CV.i .u8 (rdB ((2 :
  Int) * Int.ofNat k + (1 : Int)) k_1), AV.i .i64 (rdE ((2 : Int) * Int.ofNat k + (1 : Int)))]) (zl (AV.p 3 2)) T.e)) (z0 (z1 (AV.i .i64 (Int.ofNat k + (1 : Int))) (zl (AV.agg [AV.i
  .i64 (Int.ofNat (seeQ ((2 : Int) * Int.ofNat k))), AV.s (seeD ((2 : Int) * Int.ofNat k))])) T.e) (zl (AV.sv 1 (rdN ((2 : Int) * Int.ofNat k)) fun k_1 x => CV.i .u8 (rdB ((2 : Int)
  * Int.ofNat k) k_1)))))))) { tree := z1 (AObj.cells 51 5 [] (z1 (AV.lr 1 1 0 (SS.n s) false) (z1 (AV.lr 2 2 0 (List.length (SS.P s)) false) (zl (AV.i .i64 (SS.am s))) T.e) (z1 (AV.i .i64 (Int.ofNat (SS.wr s))) (zl (AV.b (SS.off s))) T.e))) (z1 (AObj.rows 55 1 (SS.n s) (imgF s)) (z1 (AObj.cells 80 4 [] (z1 (AV.p 0 0) (z1 (AV.lr 9 2 0 (addN k 1) false) (zl (AV.b false)) T.e) (zl (AV.lr 11 1 0 (addN k 1) false)))) (zl (AObj.cells 45 2 [AV.i .i64 (0 : Int), AV.s []] (z1 (AV.i .i64 (Int.ofNat (seeQ ((2 : Int) * Int.ofNat k + (1 : Int))))) (zl (AV.s (seeD ((2 : Int) * Int.ofNat k + (1 : Int))))) T.e))) (zl (AObj.rows 4 1 (addN k 1) (appZ k (secF bb) fun x j => List.getD [CV.b (decide (Int.ofNat (seeQ ((2 : Int) * Int.ofNat k)) < Int.ofNat (seeQ ((2 : Int) * Int.ofNat k + (1 : Int)))))] j CV.p0)))) (z0 (zl (AObj.rows 45 2 (addN k 1) (appZ k (valF q d) fun x j => List.getD [CV.i .i64 (Int.ofNat (seeQ ((2 : Int) * Int.ofNat k))), CV.s (seeD ((2 : Int) * Int.ofNat k))] j CV.p0))) T.e)) (z1 (AObj.rows 91 2 (List.length (SS.P s)) (penF (oA (SS.P s)) (oB (SS.P s)))) (z0 (zl (AObj.cells 45 2 [] (z1 (AV.i .i64 (Int.ofNat (seeQ ((2 : Int) * Int.ofNat k)))) (zl (AV.s (seeD ((2 : Int) * Int.ofNat k)))) T.e))) T.e) (z1 (AObj.cells 45 2 [AV.i .i64 (0 : Int), AV.s []] (z1 (AV.i .i64 (Int.ofNat (seeQ ((2 : Int) * Int.ofNat k)))) (zl (AV.s (seeD ((2 : Int) * Int.ofNat k)))) T.e)) (zl (AObj.cells 4 1 [] (zl (AV.b (decide (Int.ofNat (seeQ ((2 : Int) * Int.ofNat k)) < Int.ofNat (seeQ ((2 : Int) * Int.ofNat k + (1 : Int))))))))) T.e)), next := 12, log := [3, 11, 5, 10, 3, 9, 4, 8, 7, 7, 6, 6] })
  Orc.z)) := by kernel_rfl
theorem ropenE_vc (s : SS) (q : Nat → Nat) (d : Nat → List Nat) (bb : Nat → Bool) (n : Int) (k : Nat) (hk : decide (Int.ofNat k < n) = false) (K : Res → Orc → Prop) : runK
  Tryd.prog 1000000 (.code (loopAt Tryd.prog 9 0) 94 (mkT [(0, .p 0 0), (1, .i .i64 n), (6, .p 3 0), (7, .i .i64 (Int.ofNat k))]) (mkH [some (rsA 2 s), some (rsR s), some (rsP s),
  some (rcO 0 4 5 k false), some (rcV k q d), some (rcB k bb)])) (Orc.f Orc.z) K = (decide (Int.ofNat k < n) = false ∧ K (Res.st (XO.exit 1) (z1 (AV.p 0 0) (z1 (AV.i .i64 n) (z0 (zl
  (AV.i .i64 (Int.ofNat k))) (z0 T.e (z0 (zl (AV.i .i64 n)) T.e))) T.e) (z0 (z0 T.e (z0 T.e (z0 (zl (AV.b (decide (Int.ofNat k < n)))) T.e))) (z1 (AV.p 3 0) (z0 T.e (z0 (zl (AV.i
  .i64 (Int.ofNat k))) T.e)) T.e))) { tree := z1 (AObj.cells 51 5 [] (z1 (AV.lr 1 1 0 (SS.n s) false) (z1 (AV.lr 2 2 0 (List.length (SS.P s)) false) (zl (AV.i .i64 (SS.am s))) T.e) (z1 (AV.i .i64 (Int.ofNat (SS.wr s))) (zl (AV.b (SS.off s))) T.e))) (z1 (AObj.rows 55 1 (SS.n s) (imgF s)) (zl (AObj.cells 80 4 [] (z1 (AV.p 0 0) (z1 (AV.lr 4 2 0 k false) (zl (AV.b false)) T.e) (zl (AV.lr 5 1 0 k false))))) (zl (AObj.rows 4 1 k (secF bb)))) (z1 (AObj.rows 91 2 (List.length (SS.P s)) (penF (oA (SS.P s)) (oB (SS.P s)))) (zl (AObj.rows 45 2 k (valF q d))) T.e), next := 6, log := [] })
  Orc.z) := by kernel_rfl
noncomputable def qR (s : SS) (i : Nat) : Nat := nwQ (seeQ s (2 * Int.ofNat i)) (seeQ s (2 * Int.ofNat i + 1))
noncomputable def dR (s : SS) (i : Nat) : List Nat := nwD (seeQ s (2 * Int.ofNat i)) (seeQ s (2 * Int.ofNat i + 1)) (seeD s (2 * Int.ofNat i)) (seeD s (2 * Int.ofNat i + 1))
noncomputable def bR (s : SS) (i : Nat) : Bool := decide (Int.ofNat (seeQ s (2 * Int.ofNat i)) < Int.ofNat (seeQ s (2 * Int.ofNat i + 1)))
noncomputable def CS.sec (c : CS) (i : Nat) : Bool := Nat.ble 1 (c.q i) && Nat.beq (c.sp i) 0
theorem lt_blt {a b : Nat} (h : decide (Int.ofNat a < Int.ofNat b) = true) : Nat.blt a b = true := by rw [Nat.blt_eq]; have := of_decide_eq_true h; simpa using this
theorem nlt_blt {a b : Nat} (h : decide (Int.ofNat a < Int.ofNat b) = false) : Nat.blt a b = false := by rw [Bool.eq_false_iff, ne_eq, Nat.blt_eq]; have := of_decide_eq_false h; simpa using this
theorem qR_op (s : SS) (i : Nat) : qR s i = opQ s i ∧ dR s i = opD s i := by
  unfold qR dR opQ opD
  rw [show (2 : Int) * Int.ofNat i + 1 = Int.ofNat i * 2 + 1 by omega, show (2 : Int) * Int.ofNat i = Int.ofNat i * 2 + 0 by omega]
  exact ⟨rfl, rfl⟩
theorem bR_sec (s : SS) {n i : Nat} (h : i < n) : bR s i = (opened s n).sec i := by
  have e : (opened s n).sec i = (Nat.ble 1 (bif Nat.blt i n then opQ s i else 0) && Nat.beq (bif Nat.blt i n then opS s i else 0) 0) := rfl
  rw [e, show Nat.blt i n = true by rw [Nat.blt_eq]; exact h, cond_true, cond_true]
  unfold bR opQ opS
  rw [show (2 : Int) * Int.ofNat i + 1 = Int.ofNat i * 2 + 1 by omega, show (2 : Int) * Int.ofNat i = Int.ofNat i * 2 + 0 by omega]
  generalize seeQ s (Int.ofNat i * 2 + 0) = a
  generalize seeQ s (Int.ofNat i * 2 + 1) = b
  cases h1 : decide (Int.ofNat a < Int.ofNat b) with
  | true =>
    have hb := lt_blt h1
    unfold nwQ nwS
    rw [hb]
    have : a < b := by rwa [Nat.blt_eq] at hb
    show true = (Nat.ble 1 b && Nat.beq 0 0)
    rw [show Nat.ble 1 b = true by rw [Nat.ble_eq]; omega]; rfl
  | false =>
    have hb := nlt_blt h1
    unfold nwQ nwS
    rw [hb]
    cases ha : Nat.beq a 0 with
    | true =>
      have : a = 0 := by rwa [Nat.beq_eq] at ha
      subst this; rfl
    | false => show false = (Nat.ble 1 a && Nat.beq 1 0); rw [show Nat.beq 1 0 = false from rfl, Bool.and_false]
noncomputable def roT (n : Int) (k : Nat) : List (Nat × AV) := [(0, .p 0 0), (1, .i .i64 n), (6, .p 3 0), (7, .i .i64 (Int.ofNat k))]
noncomputable def roO (s : SS) (k : Nat) : List (Option AObj) := [some (rsA 2 s), some (rsR s), some (rsP s), some (rcO 0 4 5 k false), some (rcV k (qR s) (dR s)), some (rcB k (bR s))]
theorem rread_con (s : SS) (i : Int) (hl : s.P.length ≤ 1073741824) : Con Tryd.prog 30 [.p 0 0, .i .i64 i] [some (rsA 2 s), some (rsR s), some (rsP s)] (.tup [.sv 1 (s.rdN i) fun k _ => .i .u8 (s.rdB i k), .i .i64 (s.rdE i)]) [.keep, .keep, .keep] := rread2_con s i hl
theorem ropen_lp (s : SS) (n : Nat) (h2 : n ≤ 256) (hl : s.P.length ≤ 1073741824) (hb : Byt s) :
    LDoes Tryd.prog (loopAt Tryd.prog 9 0) 94 4 (mkT (roT (Int.ofNat n) 0)) (roO s 0) (.exit 1) (mkT [(6, .p 3 0)]) (roO s n) := by
  refine loop_indV (D := Nat) (l' := [(6, .p 3 0)]) (fun k => (roT (Int.ofNat n) k, roO s k)) (fun k => n - k) (fun k => k ≤ n) ?_ 0 (Nat.zero_le n)
  intro k hk
  refine ⟨by show 4 ≤ 6; decide, 1000000, ?_⟩
  by_cases hlt : k < n
  · have hd : decide (Int.ofNat k < Int.ofNat n) = true := decide_eq_true (by simp; omega)
    have vc := ropenR_vc s (qR s) (dR s) (bR s) s.rdN s.rdB s.rdE (seeQ s) (seeD s) (Int.ofNat n) k hd
    simp only [addN_eq] at vc
    refine ⟨_, (vc _).mpr ?_⟩
    have r1 : (-9223372036854775808 : Int) ≤ (2 : Int) * Int.ofNat k ∧ (2 : Int) * Int.ofNat k ≤ (9223372036854775807 : Int) := ⟨by simp <;> omega, by simp <;> omega⟩
    have r2 : (-9223372036854775808 : Int) ≤ (2 : Int) * Int.ofNat k + 1 ∧ (2 : Int) * Int.ofNat k + 1 ≤ (9223372036854775807 : Int) := ⟨by simp <;> omega, by simp <;> omega⟩
    have r3 : (-9223372036854775808 : Int) ≤ Int.ofNat k + 1 ∧ Int.ofNat k + 1 ≤ (9223372036854775807 : Int) := ⟨by simp <;> omega, by simp <;> omega⟩
    have y1 : 0 + k ≤ k ∧ True ∧ k + 1 ≤ 140737488355328 ∧ (3 * (k + 1) + 1536) * 24 ≤ 562949953421312 := ⟨by omega, trivial, by omega, by omega⟩
    have y2 : 0 + k ≤ k ∧ True ∧ k + 1 ≤ 140737488355328 ∧ (3 * (k + 1) + 1536) * 1 ≤ 562949953421312 := ⟨by omega, trivial, by omega, by omega⟩
    have ovB : OV (some (.rows 4 1 (k + 1) (appZ k (secF (bR s)) fun _ j => List.getD [CV.b (decide (Int.ofNat (seeQ s (2 * Int.ofNat k)) < Int.ofNat (seeQ s (2 * Int.ofNat k + 1))))] j CV.p0))) (some (rcB (k + 1) (bR s))) :=
      .rowsW fun i j hi hj => appZ_cw (fun _ => .of rfl) (fun q => by
        have : i = k := by omega
        subst this
        have : j = 0 := by omega
        subst this
        exact .of rfl)
    refine ⟨hd, r1, rread_con s _ hl, r1, r2, rread_con s _ hl, rsee_con s _ hb, rsee_con s _ hb, trivial, trivial, fun hc => ?_, fun hc => ?_⟩
    · refine ⟨trivial, y1, trivial, trivial, y2, trivial, r3, .inl ⟨k + 1, [0, 1, 2, 3, 9, 11], [], _, _, roT (Int.ofNat n) (k + 1), [some (rsA 2 s), some (rsR s), some (rsP s), some (rcO 0 4 5 (k + 1) false), some (.rows 45 2 (k + 1) (appZ k (valF (qR s) (dR s)) fun _ j => List.getD [CV.i .i64 (Int.ofNat (seeQ s (2 * Int.ofNat k + 1))), CV.s (seeD s (2 * Int.ofNat k + 1))] j CV.p0)), some (.rows 4 1 (k + 1) (appZ k (secF (bR s)) fun _ j => List.getD [CV.b (decide (Int.ofNat (seeQ s (2 * Int.ofNat k)) < Int.ofNat (seeQ s (2 * Int.ofNat k + 1))))] j CV.p0))], hlt, by show n - (k + 1) < n - k; omega, rfl,
        st_k [0, 1, 2, 3, 9, 11] (by kernel_rfl), .refl _, .refl _, .refl _, .refl _, .refl _, ?_, ovB, trivial⟩⟩
      refine .rowsW fun i j hi hj => appZ_cw (fun _ => .of rfl) (fun q => ?_)
      have : i = k := by omega
      subst this
      have hn := lt_blt hc
      have e1 : qR s i = seeQ s (2 * Int.ofNat i + 1) := by unfold qR nwQ; rw [hn]
      have e2 : dR s i = seeD s (2 * Int.ofNat i + 1) := by unfold dR nwD; rw [hn]
      have hj : j = 0 ∨ j = 1 := by omega
      rcases hj with rfl | rfl
      · show CW _ (CV.i .i64 (Int.ofNat (qR s i))); rw [e1]; exact .of rfl
      · show CW _ (CV.s (dR s i)); rw [e2]; exact .of rfl
    · refine ⟨trivial, y1, trivial, trivial, y2, trivial, r3, .inl ⟨k + 1, [0, 1, 2, 3, 9, 11], [], _, _, roT (Int.ofNat n) (k + 1), [some (rsA 2 s), some (rsR s), some (rsP s), some (rcO 0 4 5 (k + 1) false), some (.rows 45 2 (k + 1) (appZ k (valF (qR s) (dR s)) fun _ j => List.getD [CV.i .i64 (Int.ofNat (seeQ s (2 * Int.ofNat k))), CV.s (seeD s (2 * Int.ofNat k))] j CV.p0)), some (.rows 4 1 (k + 1) (appZ k (secF (bR s)) fun _ j => List.getD [CV.b (decide (Int.ofNat (seeQ s (2 * Int.ofNat k)) < Int.ofNat (seeQ s (2 * Int.ofNat k + 1))))] j CV.p0))], hlt, by show n - (k + 1) < n - k; omega, rfl,
        st_k [0, 1, 2, 3, 9, 11] (by kernel_rfl), .refl _, .refl _, .refl _, .refl _, .refl _, ?_, ovB, trivial⟩⟩
      refine .rowsW fun i j hi hj => appZ_cw (fun _ => .of rfl) (fun q => ?_)
      have : i = k := by omega
      subst this
      have hn := nlt_blt hc
      have e1 : qR s i = seeQ s (2 * Int.ofNat i) := by unfold qR nwQ; rw [hn]
      have e2 : dR s i = seeD s (2 * Int.ofNat i) := by unfold dR nwD; rw [hn]
      have hj : j = 0 ∨ j = 1 := by omega
      rcases hj with rfl | rfl
      · show CW _ (CV.i .i64 (Int.ofNat (qR s i))); rw [e1]; exact .of rfl
      · show CW _ (CV.s (dR s i)); rw [e2]; exact .of rfl
  · have : k = n := by omega
    subst this
    have hd : decide (Int.ofNat k < Int.ofNat k) = false := decide_eq_false (by simp)
    exact ⟨_, (ropenE_vc s (qR s) (dR s) (bR s) (Int.ofNat k) k hd _).mpr ⟨hd, .inr ⟨[0, 1, 2, 3, 4, 5], [], _, _, [(6, .p 3 0)], roO s k, rfl, by simp, st_k [0, 1, 2, 3, 4, 5] (by kernel_rfl), .refl _, .refl _⟩⟩⟩
theorem ropenG_vc (s : SS) (q : Nat → Nat) (d : Nat → List Nat) (bb : Nat → Bool) (n : Nat) (h1 : decide (Int.ofNat n < (1 : Int)) = false) (h2 : decide ((256 : Int) < Int.ofNat n)
  = false) (h3 : decide (Int.ofNat s.n < (2 : Int) * Int.ofNat n) = false) (h4 : s.off = false) (K : Res → Orc → Prop) : runK Tryd.prog 1000000 (.call 9 [.p 0 0, .i .i64 (Int.ofNat
  n)] (mkH [some (rsA 2 s), some (rsR s), some (rsP s)])) (Orc.c (Orc.t (Orc.t (Orc.f (Orc.f (Orc.f (Orc.f (Orc.lop [0, 1, 2, 3] [0, 1, 6, 7] 4 (XO.exit 1) [(6, AV.p 3 0)] [some
  (rsA 2 s), some (rsR s), some (rsP s), some (rcO 0 4 5 n false), some (rcV n q d), some (rcB n bb)] Orc.z)))))))) K = (True ∧ (!decide (Int.ofNat n < (1 : Int))) = true ∧ (!decide
  (Int.ofNat n < (1 : Int))) = true ∧ decide (Int.ofNat n < (1 : Int)) = false ∧ decide ((256 : Int) < Int.ofNat n) = false ∧ True ∧ ((-9223372036854775808 : Int) ≤ (2 : Int) *
  Int.ofNat n ∧ (2 : Int) * Int.ofNat n ≤ (9223372036854775807 : Int)) ∧ decide (Int.ofNat (SS.n s) < (2 : Int) * Int.ofNat n) = false ∧ True ∧ SS.off s = false ∧ LDoes Tryd.prog
  (loopAt Tryd.prog 9 0) 94 4 (mkT [(0, AV.p 0 0), (1, AV.i .i64 (Int.ofNat n)), (6, AV.p 3 0), (7, AV.i .i64 (0 : Int))]) [some (rsA 2 s), some (rsR s), some (rsP s), some
  (AObj.cells 80 4 [] (setAll T.e 0 [AV.p 0 0, AV.l0, AV.l0, AV.b false]))] (XO.exit 1) (mkT [(6, AV.p 3 0)]) [some (rsA 2 s), some (rsR s), some (rsP s), some (rcO 0 4 5 n false),
  some (rcV n q d), some (rcB n bb)] ∧ K (Res.rv (AV.tup [AV.p 3 0, AV.i .i64 (0 : Int)]) { tree := z1 (AObj.cells 51 5 [] (z1 (AV.lr 1 1 0 (SS.n s) false) (z1 (AV.lr 2 2 0 (List.length (SS.P s)) false) (zl (AV.i .i64 (SS.am s))) T.e) (z1 (AV.i .i64 (Int.ofNat (SS.wr s))) (zl (AV.b (SS.off s))) T.e))) (z1 (AObj.rows 55 1 (SS.n s) (imgF s)) (zl (AObj.cells 80 4 [] (z1 (AV.p 0 0) (z1 (AV.lr 4 2 0 n false) (zl (AV.b false)) T.e) (zl (AV.lr 5 1 0 n false))))) (zl (AObj.rows 4 1 n (secF bb)))) (z1 (AObj.rows 91 2 (List.length (SS.P s)) (penF (oA (SS.P s)) (oB (SS.P s)))) (zl (AObj.rows 45 2 n (valF q d))) T.e), next := 6, log := [5, 4, 3, 2, 1, 0, 3] })
  Orc.z) := by kernel_rfl
theorem ropen1_vc (s : SS) (n : Nat) (n : Int) (h1 : decide (n < (1 : Int)) = true) (K : Res → Orc → Prop) : runK Tryd.prog 1000000 (.call 9 [.p 0 0, .i .i64 n] (mkH [some (rsA 2
  s), some (rsR s), some (rsP s)])) (Orc.c (Orc.f (Orc.f (Orc.t (Orc.c Orc.z))))) K = (True ∧ (!decide (n < (1 : Int))) = false ∧ (!decide (n < (1 : Int))) = false ∧ decide (n < (1
  : Int)) = true ∧ K (Res.rv (AV.tup [AV.p0, AV.i .i64 (2 : Int)]) { tree := z1 (AObj.cells 51 5 [] (z1 (AV.lr 1 1 0 (SS.n s) false) (z1 (AV.lr 2 2 0 (List.length (SS.P s)) false) (zl (AV.i .i64 (SS.am s))) T.e) (z1 (AV.i .i64 (Int.ofNat (SS.wr s))) (zl (AV.b (SS.off s))) T.e))) (zl (AObj.rows 55 1 (SS.n s) (imgF s))) (zl (AObj.rows 91 2 (List.length (SS.P s)) (penF (oA (SS.P s)) (oB (SS.P s))))), next := 3, log := [] })
  Orc.z) := by kernel_rfl
theorem ropen2_vc (s : SS) (n : Nat) (n : Int) (h1 : decide (n < (1 : Int)) = false) (h2 : decide ((256 : Int) < n) = true) (K : Res → Orc → Prop) : runK Tryd.prog 1000000 (.call 9
  [.p 0 0, .i .i64 n] (mkH [some (rsA 2 s), some (rsR s), some (rsP s)])) (Orc.c (Orc.t (Orc.t (Orc.f (Orc.t Orc.z))))) K = (True ∧ (!decide (n < (1 : Int))) = true ∧ (!decide (n <
  (1 : Int))) = true ∧ decide (n < (1 : Int)) = false ∧ decide ((256 : Int) < n) = true ∧ K (Res.rv (AV.tup [AV.p0, AV.i .i64 (2 : Int)]) { tree := z1 (AObj.cells 51 5 [] (z1 (AV.lr 1 1 0 (SS.n s) false) (z1 (AV.lr 2 2 0 (List.length (SS.P s)) false) (zl (AV.i .i64 (SS.am s))) T.e) (z1 (AV.i .i64 (Int.ofNat (SS.wr s))) (zl (AV.b (SS.off s))) T.e))) (zl (AObj.rows 55 1 (SS.n s) (imgF s))) (zl (AObj.rows 91 2 (List.length (SS.P s)) (penF (oA (SS.P s)) (oB (SS.P s))))), next := 3, log := [] })
  Orc.z) := by kernel_rfl
theorem ropen3_vc (s : SS) (n : Nat) (n : Int) (h1 : decide (n < (1 : Int)) = false) (h2 : decide ((256 : Int) < n) = false) (h3 : decide (Int.ofNat s.n < (2 : Int) * n) = true) (K
  : Res → Orc → Prop) : runK Tryd.prog 1000000 (.call 9 [.p 0 0, .i .i64 n] (mkH [some (rsA 2 s), some (rsR s), some (rsP s)])) (Orc.c (Orc.t (Orc.t (Orc.f (Orc.f (Orc.t Orc.z))))))
  K = (True ∧ (!decide (n < (1 : Int))) = true ∧ (!decide (n < (1 : Int))) = true ∧ decide (n < (1 : Int)) = false ∧ decide ((256 : Int) < n) = false ∧ True ∧ ((-9223372036854775808
  : Int) ≤ (2 : Int) * n ∧ (2 : Int) * n ≤ (9223372036854775807 : Int)) ∧ decide (Int.ofNat (SS.n s) < (2 : Int) * n) = true ∧ K (Res.rv (AV.tup [AV.p0, AV.i .i64 (12 : Int)]) { tree := z1 (AObj.cells 51 5 [] (z1 (AV.lr 1 1 0 (SS.n s) false) (z1 (AV.lr 2 2 0 (List.length (SS.P s)) false) (zl (AV.i .i64 (SS.am s))) T.e) (z1 (AV.i .i64 (Int.ofNat (SS.wr s))) (zl (AV.b (SS.off s))) T.e))) (zl (AObj.rows 55 1 (SS.n s) (imgF s))) (zl (AObj.rows 91 2 (List.length (SS.P s)) (penF (oA (SS.P s)) (oB (SS.P s))))), next := 3, log := [] })
  Orc.z) := by kernel_rfl
theorem ropen4_vc (s : SS) (n : Nat) (n : Int) (h1 : decide (n < (1 : Int)) = false) (h2 : decide ((256 : Int) < n) = false) (h3 : decide (Int.ofNat s.n < (2 : Int) * n) = false)
  (h4 : s.off = true) (K : Res → Orc → Prop) : runK Tryd.prog 1000000 (.call 9 [.p 0 0, .i .i64 n] (mkH [some (rsA 2 s), some (rsR s), some (rsP s)])) (Orc.c (Orc.t (Orc.t (Orc.f
  (Orc.f (Orc.f (Orc.t Orc.z))))))) K = (True ∧ (!decide (n < (1 : Int))) = true ∧ (!decide (n < (1 : Int))) = true ∧ decide (n < (1 : Int)) = false ∧ decide ((256 : Int) < n) =
  false ∧ True ∧ ((-9223372036854775808 : Int) ≤ (2 : Int) * n ∧ (2 : Int) * n ≤ (9223372036854775807 : Int)) ∧ decide (Int.ofNat (SS.n s) < (2 : Int) * n) = false ∧ True ∧ SS.off s
  = true ∧ K (Res.rv (AV.tup [AV.p0, AV.i .i64 (13 : Int)]) { tree := z1 (AObj.cells 51 5 [] (z1 (AV.lr 1 1 0 (SS.n s) false) (z1 (AV.lr 2 2 0 (List.length (SS.P s)) false) (zl (AV.i .i64 (SS.am s))) T.e) (z1 (AV.i .i64 (Int.ofNat (SS.wr s))) (zl (AV.b (SS.off s))) T.e))) (zl (AObj.rows 55 1 (SS.n s) (imgF s))) (zl (AObj.rows 91 2 (List.length (SS.P s)) (penF (oA (SS.P s)) (oB (SS.P s))))), next := 3, log := [] })
  Orc.z) := by kernel_rfl
theorem ropen_con (s : SS) (n : Nat) (h1 : 1 ≤ n) (h2 : n ≤ 256) (h3 : 2 * n ≤ s.n) (ho : s.off = false) (hl : s.P.length ≤ 1073741824) (hb : Byt s) :
    Con Tryd.prog 9 [.p 0 0, .i .i64 (Int.ofNat n)] [some (rsA 2 s), some (rsR s), some (rsP s)] (.tup [.p 3 0, .i .i64 0])
      [.keep, .keep, .keep, .set (rcO 0 4 5 n false), .set (rcV n (opened s n).q (opened s n).d), .set (rcB n (opened s n).sec)] := by
  have d1 : decide (Int.ofNat n < (1 : Int)) = false := df (by simp; omega)
  have d2 : decide ((256 : Int) < Int.ofNat n) = false := df (by simp; omega)
  have d3 : decide (Int.ofNat s.n < (2 : Int) * Int.ofNat n) = false := df (by simp; omega)
  have n1 : (!decide (Int.ofNat n < (1 : Int))) = true := by rw [d1]; rfl
  have lp := (ropen_lp s n h2 hl hb).weak (l0 := roT (Int.ofNat n) 0) (objs0 := [some (rsA 2 s), some (rsR s), some (rsP s), some (cellsD 80 [] [.p 0 0, .l0, .l0, .b false])]) (TWL.refl _)
    ⟨.refl _, .refl _, .refl _, OW.cellsD (e := 80) (dflt := []) (l := [.p 0 0, .l0, .l0, .b false]) (l' := [.p 0 0, .lr 4 2 0 0 false, .lr 5 1 0 0 false, .b false]) ⟨.inl rfl, .inr ⟨rfl, .inl ⟨4, 2, 0, false, rfl⟩⟩, .inr ⟨rfl, .inl ⟨5, 1, 0, false, rfl⟩⟩, .inl rfl, trivial⟩, by
      intro o ho
      simp at ho
      rcases ho with rfl | rfl <;> exact ⟨_, rfl, rfl⟩⟩
  have r1 : (-9223372036854775808 : Int) ≤ (2 : Int) * Int.ofNat n ∧ (2 : Int) * Int.ofNat n ≤ (9223372036854775807 : Int) := ⟨by simp <;> omega, by simp <;> omega⟩
  have k : Con Tryd.prog 9 [.p 0 0, .i .i64 (Int.ofNat n)] [some (rsA 2 s), some (rsR s), some (rsP s)] (.tup [.p 3 0, .i .i64 0]) [.keep, .keep, .keep, .set (rcO 0 4 5 n false), .set (rcV n (qR s) (dR s)), .set (rcB n (bR s))] :=
    con_of_run [] [3, 4, 5] ((ropenG_vc s (qR s) (dR s) (bR s) n d1 d2 d3 ho _).mpr ⟨trivial, n1, n1, d1, d2, trivial, r1, d3, trivial, ho, lp, _, _, rfl, ret_k (by kernel_rfl)⟩)
  have bn : ∀ i, i < n → Nat.blt i n = true := fun i hi => by rw [Nat.blt_eq]; exact hi
  refine k.post (.refl _) ⟨.refl _, .refl _, .refl _, .refl _, .rowsW fun i j hi hj => ?_, .rowsW fun i j hi hj => ?_, trivial⟩
  · have hj : j = 0 ∨ j = 1 := by omega
    rcases hj with rfl | rfl
    · show CW (CV.i .i64 (Int.ofNat (qR s i))) (CV.i .i64 (Int.ofNat (bif Nat.blt i n then opQ s i else 0)))
      rw [bn i hi, cond_true, (qR_op s i).1]; exact .of rfl
    · show CW (CV.s (dR s i)) (CV.s (bif Nat.blt i n then opD s i else []))
      rw [bn i hi, cond_true, (qR_op s i).2]; exact .of rfl
  · show CW (CV.b (bR s i)) (CV.b ((opened s n).sec i))
    rw [bR_sec s hi]; exact .of rfl
theorem ropenBad_con (s : SS) (n : Int) (h : openE s n ≠ 0) : Con Tryd.prog 9 [.p 0 0, .i .i64 n] [some (rsA 2 s), some (rsR s), some (rsP s)] (.tup [.p0, .i .i64 (openE s n)]) [.keep, .keep, .keep] := by
  have fin : ∀ e : Int, openE s n = e → Con Tryd.prog 9 [.p 0 0, .i .i64 n] [some (rsA 2 s), some (rsR s), some (rsP s)] (.tup [.p0, .i .i64 e]) [.keep, .keep, .keep] → Con Tryd.prog 9 [.p 0 0, .i .i64 n] [some (rsA 2 s), some (rsR s), some (rsP s)] (.tup [.p0, .i .i64 (openE s n)]) [.keep, .keep, .keep] := fun e he k => by rw [he]; exact k
  have nn : ∀ {p : Prop} [Decidable p], decide p = false → (!decide p) = true := fun h => by rw [h]; rfl
  have nt : ∀ {p : Prop} [Decidable p], decide p = true → (!decide p) = false := fun h => by rw [h]; rfl
  have e2 : decide (Int.ofNat s.n < n * 2) = decide (Int.ofNat s.n < (2 : Int) * n) := by rw [Int.mul_comm]
  cases d1 : decide (n < 1) with
  | true => exact fin 2 (by unfold openE; rw [d1]) (con_of_run [] [] ((ropen1_vc s 0 n d1 _).mpr ⟨trivial, nt d1, nt d1, d1, _, _, rfl, ret_k (by kernel_rfl)⟩))
  | false =>
    cases d2 : decide ((256 : Int) < n) with
    | true => exact fin 2 (by unfold openE; rw [d1, d2]) (con_of_run [] [] ((ropen2_vc s 0 n d1 d2 _).mpr ⟨trivial, nn d1, nn d1, d1, d2, _, _, rfl, ret_k (by kernel_rfl)⟩))
    | false =>
      have q1 := of_decide_eq_false d1
      have q2 := of_decide_eq_false d2
      have r1 : (-9223372036854775808 : Int) ≤ (2 : Int) * n ∧ (2 : Int) * n ≤ (9223372036854775807 : Int) := ⟨by omega, by omega⟩
      cases d3 : decide (Int.ofNat s.n < (2 : Int) * n) with
      | true => exact fin 12 (by unfold openE; rw [d1, d2, e2, d3]) (con_of_run [] [] ((ropen3_vc s 0 n d1 d2 d3 _).mpr ⟨trivial, nn d1, nn d1, d1, d2, trivial, r1, d3, _, _, rfl, ret_k (by kernel_rfl)⟩))
      | false =>
        cases d4 : s.off with
        | true => exact fin 13 (by unfold openE; rw [d1, d2, e2, d3, d4]) (con_of_run [] [] ((ropen4_vc s 0 n d1 d2 d3 d4 _).mpr ⟨trivial, nn d1, nn d1, d1, d2, trivial, r1, d3, trivial, d4, _, _, rfl, ret_k (by kernel_rfl)⟩))
        | false =>
          exfalso
          apply h
          unfold openE; rw [d1, d2, e2, d3, d4]
theorem rputD_vc (s : SS) (n : Nat) (q : Nat → Nat) (d : Nat → List Nat) (bb : Nat → Bool) (i : Int) (x : List Nat) (K : Res → Orc → Prop) : runK Tryd.prog 1000000 (.call 17 [.p 3
  0, .i .i64 i, .s x] (mkH [some (rsA 2 s), some (rsR s), some (rsP s), some (rcO 0 4 5 n true), some (rcV n q d), some (rcB n bb)])) (Orc.c Orc.z) K = (True ∧ K (Res.rv (AV.i .i64
  (13 : Int)) { tree := z1 (AObj.cells 51 5 [] (z1 (AV.lr 1 1 0 (SS.n s) false) (z1 (AV.lr 2 2 0 (List.length (SS.P s)) false) (zl (AV.i .i64 (SS.am s))) T.e) (z1 (AV.i .i64 (Int.ofNat (SS.wr s))) (zl (AV.b (SS.off s))) T.e))) (z1 (AObj.rows 55 1 (SS.n s) (imgF s)) (zl (AObj.cells 80 4 [] (z1 (AV.p 0 0) (z1 (AV.lr 4 2 0 n false) (zl (AV.b true)) T.e) (zl (AV.lr 5 1 0 n false))))) (zl (AObj.rows 4 1 n (secF bb)))) (z1 (AObj.rows 91 2 (List.length (SS.P s)) (penF (oA (SS.P s)) (oB (SS.P s)))) (zl (AObj.rows 45 2 n (valF q d))) T.e), next := 6, log := [] })
  Orc.z) := by kernel_rfl
theorem rputR_vc (s : SS) (n : Nat) (q : Nat → Nat) (d : Nat → List Nat) (bb : Nat → Bool) (i : Int) (x : List Nat) (h : decide (i < 0) = true) (K : Res → Orc → Prop) : runK
  Tryd.prog 1000000 (.call 17 [.p 3 0, .i .i64 i, .s x] (mkH [some (rsA 2 s), some (rsR s), some (rsP s), some (rcO 0 4 5 n false), some (rcV n q d), some (rcB n bb)])) (Orc.c
  (Orc.f (Orc.f (Orc.f (Orc.f (Orc.f (Orc.f (Orc.f (Orc.t (Orc.c (Orc.c (Orc.c (Orc.c (Orc.c Orc.z)))))))))))))) K = (True ∧ (!decide (i < (0 : Int))) = false ∧ (!decide (i < (0 :
  Int))) = false ∧ (!decide (i < (0 : Int))) = false ∧ (!decide (i < (0 : Int))) = false ∧ (!decide (i < (0 : Int))) = false ∧ (!decide (i < (0 : Int))) = false ∧ (!decide (i < (0 :
  Int))) = false ∧ decide (i < (0 : Int)) = true ∧ K (Res.rv (AV.i .i64 (2 : Int)) { tree := z1 (AObj.cells 51 5 [] (z1 (AV.lr 1 1 0 (SS.n s) false) (z1 (AV.lr 2 2 0 (List.length (SS.P s)) false) (zl (AV.i .i64 (SS.am s))) T.e) (z1 (AV.i .i64 (Int.ofNat (SS.wr s))) (zl (AV.b (SS.off s))) T.e))) (z1 (AObj.rows 55 1 (SS.n s) (imgF s)) (zl (AObj.cells 80 4 [] (z1 (AV.p 0 0) (z1 (AV.lr 4 2 0 n false) (zl (AV.b false)) T.e) (zl (AV.lr 5 1 0 n false))))) (zl (AObj.rows 4 1 n (secF bb)))) (z1 (AObj.rows 91 2 (List.length (SS.P s)) (penF (oA (SS.P s)) (oB (SS.P s)))) (zl (AObj.rows 45 2 n (valF q d))) T.e), next := 6, log := [] })
  Orc.z) := by kernel_rfl
theorem rputS_vc (s : SS) (n : Nat) (q : Nat → Nat) (d : Nat → List Nat) (bb : Nat → Bool) (i : Int) (x : List Nat) (h : decide (i < 0) = false) (h2 : decide (Int.ofNat n ≤ i) =
  true) (K : Res → Orc → Prop) : runK Tryd.prog 1000000 (.call 17 [.p 3 0, .i .i64 i, .s x] (mkH [some (rsA 2 s), some (rsR s), some (rsP s), some (rcO 0 4 5 n false), some (rcV n q
  d), some (rcB n bb)])) (Orc.c (Orc.t (Orc.t (Orc.t (Orc.t (Orc.t (Orc.t (Orc.t (Orc.f (Orc.f (Orc.f (Orc.f (Orc.t (Orc.c Orc.z)))))))))))))) K = (True ∧ (!decide (i < (0 : Int)))
  = true ∧ (!decide (i < (0 : Int))) = true ∧ (!decide (i < (0 : Int))) = true ∧ (!decide (i < (0 : Int))) = true ∧ True ∧ (!decide (i < (0 : Int))) = true ∧ (!decide (i < (0 :
  Int))) = true ∧ (!decide (i < (0 : Int))) = true ∧ decide (i < (0 : Int)) = false ∧ (!decide (Int.ofNat n ≤ i)) = false ∧ (!decide (Int.ofNat n ≤ i)) = false ∧ (!decide (Int.ofNat
  n ≤ i)) = false ∧ decide (Int.ofNat n ≤ i) = true ∧ K (Res.rv (AV.i .i64 (2 : Int)) { tree := z1 (AObj.cells 51 5 [] (z1 (AV.lr 1 1 0 (SS.n s) false) (z1 (AV.lr 2 2 0 (List.length (SS.P s)) false) (zl (AV.i .i64 (SS.am s))) T.e) (z1 (AV.i .i64 (Int.ofNat (SS.wr s))) (zl (AV.b (SS.off s))) T.e))) (z1 (AObj.rows 55 1 (SS.n s) (imgF s)) (zl (AObj.cells 80 4 [] (z1 (AV.p 0 0) (z1 (AV.lr 4 2 0 n false) (zl (AV.b false)) T.e) (zl (AV.lr 5 1 0 n false))))) (zl (AObj.rows 4 1 n (secF bb)))) (z1 (AObj.rows 91 2 (List.length (SS.P s)) (penF (oA (SS.P s)) (oB (SS.P s)))) (zl (AObj.rows 45 2 n (valF q d))) T.e), next := 6, log := [] })
  Orc.z) := by kernel_rfl
theorem rputL_vc (s : SS) (n : Nat) (q : Nat → Nat) (d : Nat → List Nat) (bb : Nat → Bool) (i : Int) (x : List Nat) (h : decide (i < 0) = false) (h2 : decide (Int.ofNat n ≤ i) =
  false) (h3 : decide ((51 : Int) < Int.ofNat (List.length x)) = true) (K : Res → Orc → Prop) : runK Tryd.prog 1000000 (.call 17 [.p 3 0, .i .i64 i, .s x] (mkH [some (rsA 2 s), some
  (rsR s), some (rsP s), some (rcO 0 4 5 n false), some (rcV n q d), some (rcB n bb)])) (Orc.c (Orc.t (Orc.t (Orc.t (Orc.t (Orc.t (Orc.t (Orc.t (Orc.f (Orc.t (Orc.t (Orc.t (Orc.f
  (Orc.t Orc.z)))))))))))))) K = (True ∧ (!decide (i < (0 : Int))) = true ∧ (!decide (i < (0 : Int))) = true ∧ (!decide (i < (0 : Int))) = true ∧ (!decide (i < (0 : Int))) = true ∧
  True ∧ (!decide (i < (0 : Int))) = true ∧ (!decide (i < (0 : Int))) = true ∧ (!decide (i < (0 : Int))) = true ∧ decide (i < (0 : Int)) = false ∧ (!decide (Int.ofNat n ≤ i)) = true
  ∧ (!decide (Int.ofNat n ≤ i)) = true ∧ (!decide (Int.ofNat n ≤ i)) = true ∧ decide (Int.ofNat n ≤ i) = false ∧ decide ((51 : Int) < Int.ofNat (List.length x)) = true ∧ K (Res.rv
  (AV.i .i64 (2 : Int)) { tree := z1 (AObj.cells 51 5 [] (z1 (AV.lr 1 1 0 (SS.n s) false) (z1 (AV.lr 2 2 0 (List.length (SS.P s)) false) (zl (AV.i .i64 (SS.am s))) T.e) (z1 (AV.i .i64 (Int.ofNat (SS.wr s))) (zl (AV.b (SS.off s))) T.e))) (z1 (AObj.rows 55 1 (SS.n s) (imgF s)) (zl (AObj.cells 80 4 [] (z1 (AV.p 0 0) (z1 (AV.lr 4 2 0 n false) (zl (AV.b false)) T.e) (zl (AV.lr 5 1 0 n false))))) (zl (AObj.rows 4 1 n (secF bb)))) (z1 (AObj.rows 91 2 (List.length (SS.P s)) (penF (oA (SS.P s)) (oB (SS.P s)))) (zl (AObj.rows 45 2 n (valF q d))) T.e), next := 6, log := [] })
  Orc.z) := by kernel_rfl
theorem rputW_vc (s : SS) (n : Nat) (q : Nat → Nat) (d : Nat → List Nat) (bb : Nat → Bool) (i : Nat) (x : List Nat) (h : decide (Int.ofNat i < 0) = false) (h2 : decide (Int.ofNat n
  ≤ Int.ofNat i) = false) (h3 : decide ((51 : Int) < Int.ofNat (List.length x)) = false) (h4 : decide (Int.ofNat (q i) = (1099511627776 : Int)) = true) (K : Res → Orc → Prop) : runK
  Tryd.prog 1000000 (.call 17 [.p 3 0, .i .i64 (Int.ofNat i), .s x] (mkH [some (rsA 2 s), some (rsR s), some (rsP s), some (rcO 0 4 5 n false), some (rcV n q d), some (rcB n bb)]))
  (Orc.c (Orc.c (Orc.c (Orc.c (Orc.c (Orc.c (Orc.c (Orc.c (Orc.c (Orc.t (Orc.t (Orc.t (Orc.f (Orc.f (Orc.t Orc.z))))))))))))))) K = (True ∧ True ∧ (!decide (Int.ofNat n ≤ Int.ofNat
  i)) = true ∧ (!decide (Int.ofNat n ≤ Int.ofNat i)) = true ∧ (!decide (Int.ofNat n ≤ Int.ofNat i)) = true ∧ decide (Int.ofNat n ≤ Int.ofNat i) = false ∧ decide ((51 : Int) <
  Int.ofNat (List.length x)) = false ∧ True ∧ ((0 : Int) ≤ Int.ofNat i ∧ Int.ofNat i < ↑n) ∧ True ∧ i < n ∧ decide (Int.ofNat (q i) = (1099511627776 : Int)) = true ∧ K (Res.rv (AV.i
  .i64 (15 : Int)) { tree := z1 (AObj.cells 51 5 [] (z1 (AV.lr 1 1 0 (SS.n s) false) (z1 (AV.lr 2 2 0 (List.length (SS.P s)) false) (zl (AV.i .i64 (SS.am s))) T.e) (z1 (AV.i .i64 (Int.ofNat (SS.wr s))) (zl (AV.b (SS.off s))) T.e))) (z1 (AObj.rows 55 1 (SS.n s) (imgF s)) (zl (AObj.cells 80 4 [] (z1 (AV.p 0 0) (z1 (AV.lr 4 2 0 n false) (zl (AV.b false)) T.e) (zl (AV.lr 5 1 0 n false))))) (zl (AObj.rows 4 1 n (secF bb)))) (z1 (AObj.rows 91 2 (List.length (SS.P s)) (penF (oA (SS.P s)) (oB (SS.P s)))) (zl (AObj.rows 45 2 n (valF q d))) T.e), next := 6, log := [] })
  Orc.z) := by kernel_rfl
theorem rgetI_vc (s : SS) (n : Nat) (q : Nat → Nat) (d : Nat → List Nat) (bb : Nat → Bool) (i : Nat) (dd : Bool) (h : decide (Int.ofNat i < 0) = false) (h2 : decide (Int.ofNat n ≤
  Int.ofNat i) = false) (K : Res → Orc → Prop) : runK Tryd.prog 1000000 (.call 19 [.p 3 0, .i .i64 (Int.ofNat i)] (mkH [some (rsA 2 s), some (rsR s), some (rsP s), some (rcO 0 4 5 n
  dd), some (rcV n q d), some (rcB n bb)])) (Orc.c (Orc.c (Orc.c (Orc.c (Orc.c (Orc.c (Orc.c (Orc.c (Orc.f Orc.z))))))))) K = (True ∧ decide (Int.ofNat n ≤ Int.ofNat i) = false ∧
  True ∧ ((0 : Int) ≤ Int.ofNat i ∧ Int.ofNat i < ↑n) ∧ i < n ∧ K (Res.rv (AV.agg [AV.i .i64 (Int.ofNat (q i)), AV.s (d i)]) { tree := z1 (AObj.cells 51 5 [] (z1 (AV.lr 1 1 0 (SS.n s) false) (z1 (AV.lr 2 2 0 (List.length (SS.P s)) false) (zl (AV.i .i64 (SS.am s))) T.e) (z1 (AV.i .i64 (Int.ofNat (SS.wr s))) (zl (AV.b (SS.off s))) T.e))) (z1 (AObj.rows 55 1 (SS.n s) (imgF s)) (zl (AObj.cells 80 4 [] (z1 (AV.p 0 0) (z1 (AV.lr 4 2 0 n false) (zl (AV.b dd)) T.e) (zl (AV.lr 5 1 0 n false))))) (zl (AObj.rows 4 1 n (secF bb)))) (z1 (AObj.rows 91 2 (List.length (SS.P s)) (penF (oA (SS.P s)) (oB (SS.P s)))) (zl (AObj.rows 45 2 n (valF q d))) (zl (AObj.cells 45 2 [AV.i .i64 (0 : Int), AV.s []] (z1 (AV.i .i64 (Int.ofNat (q i))) (zl (AV.s (d i))) T.e)))), next := 7, log := [6, 6] })
  Orc.z) := by kernel_rfl
theorem rgetN_vc (s : SS) (n : Nat) (q : Nat → Nat) (d : Nat → List Nat) (bb : Nat → Bool) (i : Int) (dd : Bool) (h : decide (i < 0) = true) (K : Res → Orc → Prop) : runK Tryd.prog
  1000000 (.call 19 [.p 3 0, .i .i64 i] (mkH [some (rsA 2 s), some (rsR s), some (rsP s), some (rcO 0 4 5 n dd), some (rcV n q d), some (rcB n bb)])) (Orc.f (Orc.f (Orc.f (Orc.f
  (Orc.f (Orc.f (Orc.f (Orc.t (Orc.c Orc.z))))))))) K = ((!decide (i < (0 : Int))) = false ∧ (!decide (i < (0 : Int))) = false ∧ (!decide (i < (0 : Int))) = false ∧ (!decide (i < (0
  : Int))) = false ∧ (!decide (i < (0 : Int))) = false ∧ (!decide (i < (0 : Int))) = false ∧ (!decide (i < (0 : Int))) = false ∧ decide (i < (0 : Int)) = true ∧ K (Res.rv (AV.agg
  [AV.i .i64 (0 : Int), AV.s []]) { tree := z1 (AObj.cells 51 5 [] (z1 (AV.lr 1 1 0 (SS.n s) false) (z1 (AV.lr 2 2 0 (List.length (SS.P s)) false) (zl (AV.i .i64 (SS.am s))) T.e) (z1 (AV.i .i64 (Int.ofNat (SS.wr s))) (zl (AV.b (SS.off s))) T.e))) (z1 (AObj.rows 55 1 (SS.n s) (imgF s)) (zl (AObj.cells 80 4 [] (z1 (AV.p 0 0) (z1 (AV.lr 4 2 0 n false) (zl (AV.b dd)) T.e) (zl (AV.lr 5 1 0 n false))))) (zl (AObj.rows 4 1 n (secF bb)))) (z1 (AObj.rows 91 2 (List.length (SS.P s)) (penF (oA (SS.P s)) (oB (SS.P s)))) (zl (AObj.rows 45 2 n (valF q d))) (zl (AObj.cells 45 2 [AV.i .i64 (0 : Int), AV.s []] (z1 (AV.i .i64 (0 : Int)) (zl (AV.s [])) T.e)))), next := 7, log := [6, 6] })
  Orc.z) := by kernel_rfl
theorem rgetM_vc (s : SS) (n : Nat) (q : Nat → Nat) (d : Nat → List Nat) (bb : Nat → Bool) (i : Int) (dd : Bool) (h : decide (i < 0) = false) (h2 : decide (Int.ofNat n ≤ i) = true)
  (K : Res → Orc → Prop) : runK Tryd.prog 1000000 (.call 19 [.p 3 0, .i .i64 i] (mkH [some (rsA 2 s), some (rsR s), some (rsP s), some (rcO 0 4 5 n dd), some (rcV n q d), some (rcB
  n bb)])) (Orc.t (Orc.t (Orc.t (Orc.t (Orc.t (Orc.t (Orc.t (Orc.f (Orc.t Orc.z))))))))) K = ((!decide (i < (0 : Int))) = true ∧ (!decide (i < (0 : Int))) = true ∧ (!decide (i < (0
  : Int))) = true ∧ (!decide (i < (0 : Int))) = true ∧ True ∧ (!decide (i < (0 : Int))) = true ∧ (!decide (i < (0 : Int))) = true ∧ (!decide (i < (0 : Int))) = true ∧ decide (i < (0
  : Int)) = false ∧ decide (Int.ofNat n ≤ i) = true ∧ K (Res.rv (AV.agg [AV.i .i64 (0 : Int), AV.s []]) { tree := z1 (AObj.cells 51 5 [] (z1 (AV.lr 1 1 0 (SS.n s) false) (z1 (AV.lr 2 2 0 (List.length (SS.P s)) false) (zl (AV.i .i64 (SS.am s))) T.e) (z1 (AV.i .i64 (Int.ofNat (SS.wr s))) (zl (AV.b (SS.off s))) T.e))) (z1 (AObj.rows 55 1 (SS.n s) (imgF s)) (zl (AObj.cells 80 4 [] (z1 (AV.p 0 0) (z1 (AV.lr 4 2 0 n false) (zl (AV.b dd)) T.e) (zl (AV.lr 5 1 0 n false))))) (zl (AObj.rows 4 1 n (secF bb)))) (z1 (AObj.rows 91 2 (List.length (SS.P s)) (penF (oA (SS.P s)) (oB (SS.P s)))) (zl (AObj.rows 45 2 n (valF q d))) (zl (AObj.cells 45 2 [AV.i .i64 (0 : Int), AV.s []] (z1 (AV.i .i64 (0 : Int)) (zl (AV.s [])) T.e)))), next := 7, log := [6, 6] })
  Orc.z) := by kernel_rfl
theorem rputAG_vc (s : SS) (n : Nat) (i : Nat) (q : Nat → Nat) (d : Nat → List Nat) (bb : Nat → Bool) (sb : Nat → Nat) (w1 : SS) (b1 : SS) (x : List Nat) (h : decide (Int.ofNat i <
  0) = false) (h2 : decide (Int.ofNat n ≤ Int.ofNat i) = false) (h3 : decide ((51 : Int) < Int.ofNat (List.length x)) = false) (h4 : decide (Int.ofNat (q i) = (1099511627776 : Int))
  = false) (h5 : decide ((0 : Int) < Int.ofNat (q i)) = true) (h6 : (!bb i) = true) (K : Res → Orc → Prop) : runK Tryd.prog 1000000 (.call 17 [.p 3 0, .i .i64 (Int.ofNat i), .s x]
  (mkH [some (rsA 2 s), some (rsR s), some (rsP s), some (rcO 0 4 5 n false), some (rcV n q d), some (rcB n bb)])) (Orc.c (Orc.c (Orc.c (Orc.c (Orc.c (Orc.c (Orc.c (Orc.c (Orc.c
  (Orc.t (Orc.t (Orc.t (Orc.f (Orc.f (Orc.f (Orc.t (Orc.t (Orc.t (Orc.t (Orc.t (Orc.t (Orc.t (Orc.t (Orc.t (Orc.t (Orc.cal [] (AV.sv 1 64 (byF sb)) [] (Orc.cal [0, 1, 2] (AV.i .i64
  (0 : Int)) [Upd.set (rsA 3 w1), Upd.keep, Upd.gone, Upd.set (rsP w1)] (Orc.c (Orc.cal [0, 1, 7] (AV.i .i64 (0 : Int)) [Upd.set (rsA 2 b1), Upd.set (rsR b1), Upd.set (rsP b1)]
  (Orc.c Orc.z)))))))))))))))))))))))))))))) K = (True ∧ True ∧ (!decide (Int.ofNat n ≤ Int.ofNat i)) = true ∧ (!decide (Int.ofNat n ≤ Int.ofNat i)) = true ∧ (!decide (Int.ofNat n ≤
  Int.ofNat i)) = true ∧ decide (Int.ofNat n ≤ Int.ofNat i) = false ∧ decide ((51 : Int) < Int.ofNat (List.length x)) = false ∧ True ∧ ((0 : Int) ≤ Int.ofNat i ∧ Int.ofNat i < ↑n) ∧
  True ∧ i < n ∧ decide (Int.ofNat (q i) = (1099511627776 : Int)) = false ∧ True ∧ ((0 : Int) ≤ Int.ofNat i ∧ Int.ofNat i < ↑n) ∧ True ∧ i < n ∧ ((-9223372036854775808 : Int) ≤
  Int.ofNat (q i) + (1 : Int) ∧ Int.ofNat (q i) + (1 : Int) ≤ (9223372036854775807 : Int)) ∧ True ∧ ((0 : Int) ≤ Int.ofNat i ∧ Int.ofNat i < ↑n) ∧ True ∧ i < n ∧ decide ((0 : Int) <
  Int.ofNat (q i)) = true ∧ decide ((0 : Int) < Int.ofNat (q i)) = true ∧ decide ((0 : Int) < Int.ofNat (q i)) = true ∧ True ∧ decide ((0 : Int) < Int.ofNat (q i)) = true ∧ decide
  ((0 : Int) < Int.ofNat (q i)) = true ∧ decide ((0 : Int) < Int.ofNat (q i)) = true ∧ ((0 : Int) ≤ Int.ofNat i ∧ Int.ofNat i < ↑n) ∧ decide ((0 : Int) < Int.ofNat (q i)) = true ∧ i
  < n ∧ decide ((0 : Int) < Int.ofNat (q i)) = true ∧ True ∧ decide ((0 : Int) < Int.ofNat (q i)) = true ∧ ((-9223372036854775808 : Int) ≤ (2 : Int) * Int.ofNat i ∧ (2 : Int) *
  Int.ofNat i ≤ (9223372036854775807 : Int)) ∧ (!bb i) = true ∧ ((-9223372036854775808 : Int) ≤ (2 : Int) * Int.ofNat i + (1 : Int) ∧ (2 : Int) * Int.ofNat i + (1 : Int) ≤
  (9223372036854775807 : Int)) ∧ True ∧ Con Tryd.prog 39 [AV.agg [AV.i .i64 (Int.ofNat (q i) + (1 : Int)), AV.s x]] [] (AV.sv 1 64 (byF sb)) [] ∧ Con Tryd.prog 38 [AV.p 0 0, AV.i
  .i64 ((2 : Int) * Int.ofNat i + (1 : Int)), AV.sv 1 64 (byF sb)] [some (rsA 2 s), some (rsR s), some (rsP s)] (AV.i .i64 (0 : Int)) [Upd.set (rsA 3 w1), Upd.keep, Upd.gone,
  Upd.set (rsP w1)] ∧ True ∧ Con Tryd.prog 40 [AV.p 0 0] [some (rsA 2 w1), some (rsR s), some (rsP w1)] (AV.i .i64 (0 : Int)) [Upd.set (rsA 2 b1), Upd.set (rsR b1), Upd.set (rsP
  b1)] ∧ True ∧ ((0 : Int) ≤ Int.ofNat i ∧ Int.ofNat i < ↑n) ∧ i < n ∧ True ∧ ((0 : Int) ≤ Int.ofNat i ∧ Int.ofNat i < ↑n) ∧ i < n ∧ K (Res.rv (AV.i .i64 (0 : Int)) { tree := z1 (AObj.cells 51 5 [] (z1 (AV.lr 1 1 0 (SS.n b1) false) (z1 (AV.lr 7 2 0 (List.length (SS.P b1)) false) (zl (AV.i .i64 (SS.am b1))) T.e) (z1 (AV.i .i64 (Int.ofNat (SS.wr b1))) (zl (AV.b (SS.off b1))) T.e))) (z1 (AObj.rows 55 1 (SS.n b1) (imgF b1)) (z1 (AObj.cells 80 4 [] (z1 (AV.p 0 0) (z1 (AV.lr 4 2 0 n false) (zl (AV.b false)) T.e) (zl (AV.lr 5 1 0 n false)))) (zl (AObj.rows 91 2 (List.length (SS.P b1)) (penF (oA (SS.P b1)) (oB (SS.P b1))))) T.e) (zl (AObj.rows 4 1 n (setRow (secF bb) i 0 [CV.b !bb i])))) (z0 (zl (AObj.rows 45 2 n (setRow (valF q d) i 0 [CV.i .i64 (Int.ofNat (q i) + (1 : Int)), CV.s x]))) (zl (AObj.cells 45 2 [AV.i .i64 (0 : Int), AV.s []] (z1 (AV.i .i64 (Int.ofNat (q i) + (1 : Int))) (zl (AV.s x)) T.e)))), next := 8, log := [5, 4, 7, 1, 0, 7, 2, 0, 6, 6] })
  Orc.z) := by kernel_rfl
theorem rputAF_vc (s : SS) (n : Nat) (i : Nat) (q : Nat → Nat) (d : Nat → List Nat) (bb : Nat → Bool) (sb : Nat → Nat) (w1 : SS) (x : List Nat) (h : decide (Int.ofNat i < 0) =
  false) (h2 : decide (Int.ofNat n ≤ Int.ofNat i) = false) (h3 : decide ((51 : Int) < Int.ofNat (List.length x)) = false) (h4 : decide (Int.ofNat (q i) = (1099511627776 : Int)) =
  false) (h5 : decide ((0 : Int) < Int.ofNat (q i)) = true) (h6 : (!bb i) = true) (K : Res → Orc → Prop) : runK Tryd.prog 1000000 (.call 17 [.p 3 0, .i .i64 (Int.ofNat i), .s x]
  (mkH [some (rsA 2 s), some (rsR s), some (rsP s), some (rcO 0 4 5 n false), some (rcV n q d), some (rcB n bb)])) (Orc.c (Orc.c (Orc.c (Orc.c (Orc.c (Orc.c (Orc.c (Orc.c (Orc.c
  (Orc.t (Orc.t (Orc.t (Orc.f (Orc.f (Orc.f (Orc.t (Orc.t (Orc.t (Orc.t (Orc.t (Orc.t (Orc.t (Orc.t (Orc.t (Orc.t (Orc.cal [] (AV.sv 1 64 (byF sb)) [] (Orc.cal [0, 1, 2] (AV.i .i64
  (13 : Int)) [Upd.set (rsA 3 w1), Upd.keep, Upd.gone, Upd.set (rsP w1)] (Orc.c (Orc.c Orc.z))))))))))))))))))))))))))))) K = (True ∧ True ∧ (!decide (Int.ofNat n ≤ Int.ofNat i)) =
  true ∧ (!decide (Int.ofNat n ≤ Int.ofNat i)) = true ∧ (!decide (Int.ofNat n ≤ Int.ofNat i)) = true ∧ decide (Int.ofNat n ≤ Int.ofNat i) = false ∧ decide ((51 : Int) < Int.ofNat
  (List.length x)) = false ∧ True ∧ ((0 : Int) ≤ Int.ofNat i ∧ Int.ofNat i < ↑n) ∧ True ∧ i < n ∧ decide (Int.ofNat (q i) = (1099511627776 : Int)) = false ∧ True ∧ ((0 : Int) ≤
  Int.ofNat i ∧ Int.ofNat i < ↑n) ∧ True ∧ i < n ∧ ((-9223372036854775808 : Int) ≤ Int.ofNat (q i) + (1 : Int) ∧ Int.ofNat (q i) + (1 : Int) ≤ (9223372036854775807 : Int)) ∧ True ∧
  ((0 : Int) ≤ Int.ofNat i ∧ Int.ofNat i < ↑n) ∧ True ∧ i < n ∧ decide ((0 : Int) < Int.ofNat (q i)) = true ∧ decide ((0 : Int) < Int.ofNat (q i)) = true ∧ decide ((0 : Int) <
  Int.ofNat (q i)) = true ∧ True ∧ decide ((0 : Int) < Int.ofNat (q i)) = true ∧ decide ((0 : Int) < Int.ofNat (q i)) = true ∧ decide ((0 : Int) < Int.ofNat (q i)) = true ∧ ((0 :
  Int) ≤ Int.ofNat i ∧ Int.ofNat i < ↑n) ∧ decide ((0 : Int) < Int.ofNat (q i)) = true ∧ i < n ∧ decide ((0 : Int) < Int.ofNat (q i)) = true ∧ True ∧ decide ((0 : Int) < Int.ofNat
  (q i)) = true ∧ ((-9223372036854775808 : Int) ≤ (2 : Int) * Int.ofNat i ∧ (2 : Int) * Int.ofNat i ≤ (9223372036854775807 : Int)) ∧ (!bb i) = true ∧ ((-9223372036854775808 : Int) ≤
  (2 : Int) * Int.ofNat i + (1 : Int) ∧ (2 : Int) * Int.ofNat i + (1 : Int) ≤ (9223372036854775807 : Int)) ∧ True ∧ Con Tryd.prog 39 [AV.agg [AV.i .i64 (Int.ofNat (q i) + (1 :
  Int)), AV.s x]] [] (AV.sv 1 64 (byF sb)) [] ∧ Con Tryd.prog 38 [AV.p 0 0, AV.i .i64 ((2 : Int) * Int.ofNat i + (1 : Int)), AV.sv 1 64 (byF sb)] [some (rsA 2 s), some (rsR s), some
  (rsP s)] (AV.i .i64 (13 : Int)) [Upd.set (rsA 3 w1), Upd.keep, Upd.gone, Upd.set (rsP w1)] ∧ True ∧ K (Res.rv (AV.i .i64 (13 : Int)) { tree := z1 (AObj.cells 51 5 [] (z1 (AV.lr 1 1 0 (SS.n w1) false) (z1 (AV.lr 7 2 0 (List.length (SS.P w1)) false) (zl (AV.i .i64 (SS.am w1))) T.e) (z1 (AV.i .i64 (Int.ofNat (SS.wr w1))) (zl (AV.b (SS.off w1))) T.e))) (z1 (AObj.rows 55 1 (SS.n s) (imgF s)) (z1 (AObj.cells 80 4 [] (z1 (AV.p 0 0) (z1 (AV.lr 4 2 0 n false) (zl (AV.b true)) T.e) (zl (AV.lr 5 1 0 n false)))) (zl (AObj.rows 91 2 (List.length (SS.P w1)) (penF (oA (SS.P w1)) (oB (SS.P w1))))) T.e) (zl (AObj.rows 4 1 n (secF bb)))) (z0 (zl (AObj.rows 45 2 n (valF q d))) (zl (AObj.cells 45 2 [AV.i .i64 (0 : Int), AV.s []] (z1 (AV.i .i64 (Int.ofNat (q i) + (1 : Int))) (zl (AV.s x)) T.e)))), next := 8, log := [3, 7, 2, 0, 6, 6] })
  Orc.z) := by kernel_rfl
theorem rputAO_vc (s : SS) (n : Nat) (i : Nat) (q : Nat → Nat) (d : Nat → List Nat) (bb : Nat → Bool) (sb : Nat → Nat) (x : List Nat) (h : decide (Int.ofNat i < 0) = false) (h2 :
  decide (Int.ofNat n ≤ Int.ofNat i) = false) (h3 : decide ((51 : Int) < Int.ofNat (List.length x)) = false) (h4 : decide (Int.ofNat (q i) = (1099511627776 : Int)) = false) (h5 :
  decide ((0 : Int) < Int.ofNat (q i)) = true) (h6 : (!bb i) = true) (K : Res → Orc → Prop) : runK Tryd.prog 1000000 (.call 17 [.p 3 0, .i .i64 (Int.ofNat i), .s x] (mkH [some (rsA
  2 s), some (rsR s), some (rsP s), some (rcO 0 4 5 n false), some (rcV n q d), some (rcB n bb)])) (Orc.c (Orc.c (Orc.c (Orc.c (Orc.c (Orc.c (Orc.c (Orc.c (Orc.c (Orc.t (Orc.t
  (Orc.t (Orc.f (Orc.f (Orc.f (Orc.t (Orc.t (Orc.t (Orc.t (Orc.t (Orc.t (Orc.t (Orc.t (Orc.t (Orc.t (Orc.cal [] (AV.sv 1 64 (byF sb)) [] (Orc.cal [0, 1, 2] (AV.i .i64 (13 : Int))
  [Upd.keep, Upd.keep, Upd.keep] (Orc.c (Orc.c Orc.z))))))))))))))))))))))))))))) K = (True ∧ True ∧ (!decide (Int.ofNat n ≤ Int.ofNat i)) = true ∧ (!decide (Int.ofNat n ≤ Int.ofNat
  i)) = true ∧ (!decide (Int.ofNat n ≤ Int.ofNat i)) = true ∧ decide (Int.ofNat n ≤ Int.ofNat i) = false ∧ decide ((51 : Int) < Int.ofNat (List.length x)) = false ∧ True ∧ ((0 :
  Int) ≤ Int.ofNat i ∧ Int.ofNat i < ↑n) ∧ True ∧ i < n ∧ decide (Int.ofNat (q i) = (1099511627776 : Int)) = false ∧ True ∧ ((0 : Int) ≤ Int.ofNat i ∧ Int.ofNat i < ↑n) ∧ True ∧ i <
  n ∧ ((-9223372036854775808 : Int) ≤ Int.ofNat (q i) + (1 : Int) ∧ Int.ofNat (q i) + (1 : Int) ≤ (9223372036854775807 : Int)) ∧ True ∧ ((0 : Int) ≤ Int.ofNat i ∧ Int.ofNat i < ↑n)
  ∧ True ∧ i < n ∧ decide ((0 : Int) < Int.ofNat (q i)) = true ∧ decide ((0 : Int) < Int.ofNat (q i)) = true ∧ decide ((0 : Int) < Int.ofNat (q i)) = true ∧ True ∧ decide ((0 : Int)
  < Int.ofNat (q i)) = true ∧ decide ((0 : Int) < Int.ofNat (q i)) = true ∧ decide ((0 : Int) < Int.ofNat (q i)) = true ∧ ((0 : Int) ≤ Int.ofNat i ∧ Int.ofNat i < ↑n) ∧ decide ((0 :
  Int) < Int.ofNat (q i)) = true ∧ i < n ∧ decide ((0 : Int) < Int.ofNat (q i)) = true ∧ True ∧ decide ((0 : Int) < Int.ofNat (q i)) = true ∧ ((-9223372036854775808 : Int) ≤ (2 :
  Int) * Int.ofNat i ∧ (2 : Int) * Int.ofNat i ≤ (9223372036854775807 : Int)) ∧ (!bb i) = true ∧ ((-9223372036854775808 : Int) ≤ (2 : Int) * Int.ofNat i + (1 : Int) ∧ (2 : Int) *
  Int.ofNat i + (1 : Int) ≤ (9223372036854775807 : Int)) ∧ True ∧ Con Tryd.prog 39 [AV.agg [AV.i .i64 (Int.ofNat (q i) + (1 : Int)), AV.s x]] [] (AV.sv 1 64 (byF sb)) [] ∧ Con
  Tryd.prog 38 [AV.p 0 0, AV.i .i64 ((2 : Int) * Int.ofNat i + (1 : Int)), AV.sv 1 64 (byF sb)] [some (rsA 2 s), some (rsR s), some (rsP s)] (AV.i .i64 (13 : Int)) [Upd.keep,
  Upd.keep, Upd.keep] ∧ True ∧ K (Res.rv (AV.i .i64 (13 : Int)) { tree := z1 (AObj.cells 51 5 [] (z1 (AV.lr 1 1 0 (SS.n s) false) (z1 (AV.lr 2 2 0 (List.length (SS.P s)) false) (zl (AV.i .i64 (SS.am s))) T.e) (z1 (AV.i .i64 (Int.ofNat (SS.wr s))) (zl (AV.b (SS.off s))) T.e))) (z1 (AObj.rows 55 1 (SS.n s) (imgF s)) (zl (AObj.cells 80 4 [] (z1 (AV.p 0 0) (z1 (AV.lr 4 2 0 n false) (zl (AV.b true)) T.e) (zl (AV.lr 5 1 0 n false))))) (zl (AObj.rows 4 1 n (secF bb)))) (z1 (AObj.rows 91 2 (List.length (SS.P s)) (penF (oA (SS.P s)) (oB (SS.P s)))) (zl (AObj.rows 45 2 n (valF q d))) (zl (AObj.cells 45 2 [AV.i .i64 (0 : Int), AV.s []] (z1 (AV.i .i64 (Int.ofNat (q i) + (1 : Int))) (zl (AV.s x)) T.e)))), next := 7, log := [3, 6, 6] })
  Orc.z) := by kernel_rfl
theorem rputBG_vc (s : SS) (n : Nat) (i : Nat) (q : Nat → Nat) (d : Nat → List Nat) (bb : Nat → Bool) (sb : Nat → Nat) (w1 : SS) (b1 : SS) (x : List Nat) (h : decide (Int.ofNat i <
  0) = false) (h2 : decide (Int.ofNat n ≤ Int.ofNat i) = false) (h3 : decide ((51 : Int) < Int.ofNat (List.length x)) = false) (h4 : decide (Int.ofNat (q i) = (1099511627776 : Int))
  = false) (h5 : decide ((0 : Int) < Int.ofNat (q i)) = true) (h6 : (!bb i) = false) (K : Res → Orc → Prop) : runK Tryd.prog 1000000 (.call 17 [.p 3 0, .i .i64 (Int.ofNat i), .s x]
  (mkH [some (rsA 2 s), some (rsR s), some (rsP s), some (rcO 0 4 5 n false), some (rcV n q d), some (rcB n bb)])) (Orc.c (Orc.c (Orc.c (Orc.c (Orc.c (Orc.c (Orc.c (Orc.c (Orc.c
  (Orc.t (Orc.t (Orc.t (Orc.f (Orc.f (Orc.f (Orc.t (Orc.t (Orc.t (Orc.t (Orc.t (Orc.t (Orc.t (Orc.t (Orc.t (Orc.f (Orc.cal [] (AV.sv 1 64 (byF sb)) [] (Orc.cal [0, 1, 2] (AV.i .i64
  (0 : Int)) [Upd.set (rsA 3 w1), Upd.keep, Upd.gone, Upd.set (rsP w1)] (Orc.c (Orc.cal [0, 1, 7] (AV.i .i64 (0 : Int)) [Upd.set (rsA 2 b1), Upd.set (rsR b1), Upd.set (rsP b1)]
  (Orc.c Orc.z)))))))))))))))))))))))))))))) K = (True ∧ True ∧ (!decide (Int.ofNat n ≤ Int.ofNat i)) = true ∧ (!decide (Int.ofNat n ≤ Int.ofNat i)) = true ∧ (!decide (Int.ofNat n ≤
  Int.ofNat i)) = true ∧ decide (Int.ofNat n ≤ Int.ofNat i) = false ∧ decide ((51 : Int) < Int.ofNat (List.length x)) = false ∧ True ∧ ((0 : Int) ≤ Int.ofNat i ∧ Int.ofNat i < ↑n) ∧
  True ∧ i < n ∧ decide (Int.ofNat (q i) = (1099511627776 : Int)) = false ∧ True ∧ ((0 : Int) ≤ Int.ofNat i ∧ Int.ofNat i < ↑n) ∧ True ∧ i < n ∧ ((-9223372036854775808 : Int) ≤
  Int.ofNat (q i) + (1 : Int) ∧ Int.ofNat (q i) + (1 : Int) ≤ (9223372036854775807 : Int)) ∧ True ∧ ((0 : Int) ≤ Int.ofNat i ∧ Int.ofNat i < ↑n) ∧ True ∧ i < n ∧ decide ((0 : Int) <
  Int.ofNat (q i)) = true ∧ decide ((0 : Int) < Int.ofNat (q i)) = true ∧ decide ((0 : Int) < Int.ofNat (q i)) = true ∧ True ∧ decide ((0 : Int) < Int.ofNat (q i)) = true ∧ decide
  ((0 : Int) < Int.ofNat (q i)) = true ∧ decide ((0 : Int) < Int.ofNat (q i)) = true ∧ ((0 : Int) ≤ Int.ofNat i ∧ Int.ofNat i < ↑n) ∧ decide ((0 : Int) < Int.ofNat (q i)) = true ∧ i
  < n ∧ decide ((0 : Int) < Int.ofNat (q i)) = true ∧ True ∧ decide ((0 : Int) < Int.ofNat (q i)) = true ∧ ((-9223372036854775808 : Int) ≤ (2 : Int) * Int.ofNat i ∧ (2 : Int) *
  Int.ofNat i ≤ (9223372036854775807 : Int)) ∧ (!bb i) = false ∧ True ∧ Con Tryd.prog 39 [AV.agg [AV.i .i64 (Int.ofNat (q i) + (1 : Int)), AV.s x]] [] (AV.sv 1 64 (byF sb)) [] ∧ Con
  Tryd.prog 38 [AV.p 0 0, AV.i .i64 ((2 : Int) * Int.ofNat i), AV.sv 1 64 (byF sb)] [some (rsA 2 s), some (rsR s), some (rsP s)] (AV.i .i64 (0 : Int)) [Upd.set (rsA 3 w1), Upd.keep,
  Upd.gone, Upd.set (rsP w1)] ∧ True ∧ Con Tryd.prog 40 [AV.p 0 0] [some (rsA 2 w1), some (rsR s), some (rsP w1)] (AV.i .i64 (0 : Int)) [Upd.set (rsA 2 b1), Upd.set (rsR b1),
  Upd.set (rsP b1)] ∧ True ∧ ((0 : Int) ≤ Int.ofNat i ∧ Int.ofNat i < ↑n) ∧ i < n ∧ True ∧ ((0 : Int) ≤ Int.ofNat i ∧ Int.ofNat i < ↑n) ∧ i < n ∧ K (Res.rv (AV.i .i64 (0 : Int)) { tree := z1 (AObj.cells 51 5 [] (z1 (AV.lr 1 1 0 (SS.n b1) false) (z1 (AV.lr 7 2 0 (List.length (SS.P b1)) false) (zl (AV.i .i64 (SS.am b1))) T.e) (z1 (AV.i .i64 (Int.ofNat (SS.wr b1))) (zl (AV.b (SS.off b1))) T.e))) (z1 (AObj.rows 55 1 (SS.n b1) (imgF b1)) (z1 (AObj.cells 80 4 [] (z1 (AV.p 0 0) (z1 (AV.lr 4 2 0 n false) (zl (AV.b false)) T.e) (zl (AV.lr 5 1 0 n false)))) (zl (AObj.rows 91 2 (List.length (SS.P b1)) (penF (oA (SS.P b1)) (oB (SS.P b1))))) T.e) (zl (AObj.rows 4 1 n (setRow (secF bb) i 0 [CV.b !bb i])))) (z0 (zl (AObj.rows 45 2 n (setRow (valF q d) i 0 [CV.i .i64 (Int.ofNat (q i) + (1 : Int)), CV.s x]))) (zl (AObj.cells 45 2 [AV.i .i64 (0 : Int), AV.s []] (z1 (AV.i .i64 (Int.ofNat (q i) + (1 : Int))) (zl (AV.s x)) T.e)))), next := 8, log := [5, 4, 7, 1, 0, 7, 2, 0, 6, 6] })
  Orc.z) := by kernel_rfl
theorem rputBF_vc (s : SS) (n : Nat) (i : Nat) (q : Nat → Nat) (d : Nat → List Nat) (bb : Nat → Bool) (sb : Nat → Nat) (w1 : SS) (x : List Nat) (h : decide (Int.ofNat i < 0) =
  false) (h2 : decide (Int.ofNat n ≤ Int.ofNat i) = false) (h3 : decide ((51 : Int) < Int.ofNat (List.length x)) = false) (h4 : decide (Int.ofNat (q i) = (1099511627776 : Int)) =
  false) (h5 : decide ((0 : Int) < Int.ofNat (q i)) = true) (h6 : (!bb i) = false) (K : Res → Orc → Prop) : runK Tryd.prog 1000000 (.call 17 [.p 3 0, .i .i64 (Int.ofNat i), .s x]
  (mkH [some (rsA 2 s), some (rsR s), some (rsP s), some (rcO 0 4 5 n false), some (rcV n q d), some (rcB n bb)])) (Orc.c (Orc.c (Orc.c (Orc.c (Orc.c (Orc.c (Orc.c (Orc.c (Orc.c
  (Orc.t (Orc.t (Orc.t (Orc.f (Orc.f (Orc.f (Orc.t (Orc.t (Orc.t (Orc.t (Orc.t (Orc.t (Orc.t (Orc.t (Orc.t (Orc.f (Orc.cal [] (AV.sv 1 64 (byF sb)) [] (Orc.cal [0, 1, 2] (AV.i .i64
  (13 : Int)) [Upd.set (rsA 3 w1), Upd.keep, Upd.gone, Upd.set (rsP w1)] (Orc.c (Orc.c Orc.z))))))))))))))))))))))))))))) K = (True ∧ True ∧ (!decide (Int.ofNat n ≤ Int.ofNat i)) =
  true ∧ (!decide (Int.ofNat n ≤ Int.ofNat i)) = true ∧ (!decide (Int.ofNat n ≤ Int.ofNat i)) = true ∧ decide (Int.ofNat n ≤ Int.ofNat i) = false ∧ decide ((51 : Int) < Int.ofNat
  (List.length x)) = false ∧ True ∧ ((0 : Int) ≤ Int.ofNat i ∧ Int.ofNat i < ↑n) ∧ True ∧ i < n ∧ decide (Int.ofNat (q i) = (1099511627776 : Int)) = false ∧ True ∧ ((0 : Int) ≤
  Int.ofNat i ∧ Int.ofNat i < ↑n) ∧ True ∧ i < n ∧ ((-9223372036854775808 : Int) ≤ Int.ofNat (q i) + (1 : Int) ∧ Int.ofNat (q i) + (1 : Int) ≤ (9223372036854775807 : Int)) ∧ True ∧
  ((0 : Int) ≤ Int.ofNat i ∧ Int.ofNat i < ↑n) ∧ True ∧ i < n ∧ decide ((0 : Int) < Int.ofNat (q i)) = true ∧ decide ((0 : Int) < Int.ofNat (q i)) = true ∧ decide ((0 : Int) <
  Int.ofNat (q i)) = true ∧ True ∧ decide ((0 : Int) < Int.ofNat (q i)) = true ∧ decide ((0 : Int) < Int.ofNat (q i)) = true ∧ decide ((0 : Int) < Int.ofNat (q i)) = true ∧ ((0 :
  Int) ≤ Int.ofNat i ∧ Int.ofNat i < ↑n) ∧ decide ((0 : Int) < Int.ofNat (q i)) = true ∧ i < n ∧ decide ((0 : Int) < Int.ofNat (q i)) = true ∧ True ∧ decide ((0 : Int) < Int.ofNat
  (q i)) = true ∧ ((-9223372036854775808 : Int) ≤ (2 : Int) * Int.ofNat i ∧ (2 : Int) * Int.ofNat i ≤ (9223372036854775807 : Int)) ∧ (!bb i) = false ∧ True ∧ Con Tryd.prog 39
  [AV.agg [AV.i .i64 (Int.ofNat (q i) + (1 : Int)), AV.s x]] [] (AV.sv 1 64 (byF sb)) [] ∧ Con Tryd.prog 38 [AV.p 0 0, AV.i .i64 ((2 : Int) * Int.ofNat i), AV.sv 1 64 (byF sb)]
  [some (rsA 2 s), some (rsR s), some (rsP s)] (AV.i .i64 (13 : Int)) [Upd.set (rsA 3 w1), Upd.keep, Upd.gone, Upd.set (rsP w1)] ∧ True ∧ K (Res.rv (AV.i .i64 (13 : Int)) { tree := z1 (AObj.cells 51 5 [] (z1 (AV.lr 1 1 0 (SS.n w1) false) (z1 (AV.lr 7 2 0 (List.length (SS.P w1)) false) (zl (AV.i .i64 (SS.am w1))) T.e) (z1 (AV.i .i64 (Int.ofNat (SS.wr w1))) (zl (AV.b (SS.off w1))) T.e))) (z1 (AObj.rows 55 1 (SS.n s) (imgF s)) (z1 (AObj.cells 80 4 [] (z1 (AV.p 0 0) (z1 (AV.lr 4 2 0 n false) (zl (AV.b true)) T.e) (zl (AV.lr 5 1 0 n false)))) (zl (AObj.rows 91 2 (List.length (SS.P w1)) (penF (oA (SS.P w1)) (oB (SS.P w1))))) T.e) (zl (AObj.rows 4 1 n (secF bb)))) (z0 (zl (AObj.rows 45 2 n (valF q d))) (zl (AObj.cells 45 2 [AV.i .i64 (0 : Int), AV.s []] (z1 (AV.i .i64 (Int.ofNat (q i) + (1 : Int))) (zl (AV.s x)) T.e)))), next := 8, log := [3, 7, 2, 0, 6, 6] })
  Orc.z) := by kernel_rfl
theorem rputBO_vc (s : SS) (n : Nat) (i : Nat) (q : Nat → Nat) (d : Nat → List Nat) (bb : Nat → Bool) (sb : Nat → Nat) (x : List Nat) (h : decide (Int.ofNat i < 0) = false) (h2 :
  decide (Int.ofNat n ≤ Int.ofNat i) = false) (h3 : decide ((51 : Int) < Int.ofNat (List.length x)) = false) (h4 : decide (Int.ofNat (q i) = (1099511627776 : Int)) = false) (h5 :
  decide ((0 : Int) < Int.ofNat (q i)) = true) (h6 : (!bb i) = false) (K : Res → Orc → Prop) : runK Tryd.prog 1000000 (.call 17 [.p 3 0, .i .i64 (Int.ofNat i), .s x] (mkH [some (rsA
  2 s), some (rsR s), some (rsP s), some (rcO 0 4 5 n false), some (rcV n q d), some (rcB n bb)])) (Orc.c (Orc.c (Orc.c (Orc.c (Orc.c (Orc.c (Orc.c (Orc.c (Orc.c (Orc.t (Orc.t
  (Orc.t (Orc.f (Orc.f (Orc.f (Orc.t (Orc.t (Orc.t (Orc.t (Orc.t (Orc.t (Orc.t (Orc.t (Orc.t (Orc.f (Orc.cal [] (AV.sv 1 64 (byF sb)) [] (Orc.cal [0, 1, 2] (AV.i .i64 (13 : Int))
  [Upd.keep, Upd.keep, Upd.keep] (Orc.c (Orc.c Orc.z))))))))))))))))))))))))))))) K = (True ∧ True ∧ (!decide (Int.ofNat n ≤ Int.ofNat i)) = true ∧ (!decide (Int.ofNat n ≤ Int.ofNat
  i)) = true ∧ (!decide (Int.ofNat n ≤ Int.ofNat i)) = true ∧ decide (Int.ofNat n ≤ Int.ofNat i) = false ∧ decide ((51 : Int) < Int.ofNat (List.length x)) = false ∧ True ∧ ((0 :
  Int) ≤ Int.ofNat i ∧ Int.ofNat i < ↑n) ∧ True ∧ i < n ∧ decide (Int.ofNat (q i) = (1099511627776 : Int)) = false ∧ True ∧ ((0 : Int) ≤ Int.ofNat i ∧ Int.ofNat i < ↑n) ∧ True ∧ i <
  n ∧ ((-9223372036854775808 : Int) ≤ Int.ofNat (q i) + (1 : Int) ∧ Int.ofNat (q i) + (1 : Int) ≤ (9223372036854775807 : Int)) ∧ True ∧ ((0 : Int) ≤ Int.ofNat i ∧ Int.ofNat i < ↑n)
  ∧ True ∧ i < n ∧ decide ((0 : Int) < Int.ofNat (q i)) = true ∧ decide ((0 : Int) < Int.ofNat (q i)) = true ∧ decide ((0 : Int) < Int.ofNat (q i)) = true ∧ True ∧ decide ((0 : Int)
  < Int.ofNat (q i)) = true ∧ decide ((0 : Int) < Int.ofNat (q i)) = true ∧ decide ((0 : Int) < Int.ofNat (q i)) = true ∧ ((0 : Int) ≤ Int.ofNat i ∧ Int.ofNat i < ↑n) ∧ decide ((0 :
  Int) < Int.ofNat (q i)) = true ∧ i < n ∧ decide ((0 : Int) < Int.ofNat (q i)) = true ∧ True ∧ decide ((0 : Int) < Int.ofNat (q i)) = true ∧ ((-9223372036854775808 : Int) ≤ (2 :
  Int) * Int.ofNat i ∧ (2 : Int) * Int.ofNat i ≤ (9223372036854775807 : Int)) ∧ (!bb i) = false ∧ True ∧ Con Tryd.prog 39 [AV.agg [AV.i .i64 (Int.ofNat (q i) + (1 : Int)), AV.s x]]
  [] (AV.sv 1 64 (byF sb)) [] ∧ Con Tryd.prog 38 [AV.p 0 0, AV.i .i64 ((2 : Int) * Int.ofNat i), AV.sv 1 64 (byF sb)] [some (rsA 2 s), some (rsR s), some (rsP s)] (AV.i .i64 (13 :
  Int)) [Upd.keep, Upd.keep, Upd.keep] ∧ True ∧ K (Res.rv (AV.i .i64 (13 : Int)) { tree := z1 (AObj.cells 51 5 [] (z1 (AV.lr 1 1 0 (SS.n s) false) (z1 (AV.lr 2 2 0 (List.length (SS.P s)) false) (zl (AV.i .i64 (SS.am s))) T.e) (z1 (AV.i .i64 (Int.ofNat (SS.wr s))) (zl (AV.b (SS.off s))) T.e))) (z1 (AObj.rows 55 1 (SS.n s) (imgF s)) (zl (AObj.cells 80 4 [] (z1 (AV.p 0 0) (z1 (AV.lr 4 2 0 n false) (zl (AV.b true)) T.e) (zl (AV.lr 5 1 0 n false))))) (zl (AObj.rows 4 1 n (secF bb)))) (z1 (AObj.rows 91 2 (List.length (SS.P s)) (penF (oA (SS.P s)) (oB (SS.P s)))) (zl (AObj.rows 45 2 n (valF q d))) (zl (AObj.cells 45 2 [AV.i .i64 (0 : Int), AV.s []] (z1 (AV.i .i64 (Int.ofNat (q i) + (1 : Int))) (zl (AV.s x)) T.e)))), next := 7, log := [3, 6, 6] })
  Orc.z) := by kernel_rfl
theorem rputCG_vc (s : SS) (n : Nat) (i : Nat) (q : Nat → Nat) (d : Nat → List Nat) (bb : Nat → Bool) (sb : Nat → Nat) (w1 : SS) (b1 : SS) (x : List Nat) (h : decide (Int.ofNat i <
  0) = false) (h2 : decide (Int.ofNat n ≤ Int.ofNat i) = false) (h3 : decide ((51 : Int) < Int.ofNat (List.length x)) = false) (h4 : decide (Int.ofNat (q i) = (1099511627776 : Int))
  = false) (h5 : decide ((0 : Int) < Int.ofNat (q i)) = false) (K : Res → Orc → Prop) : runK Tryd.prog 1000000 (.call 17 [.p 3 0, .i .i64 (Int.ofNat i), .s x] (mkH [some (rsA 2 s),
  some (rsR s), some (rsP s), some (rcO 0 4 5 n false), some (rcV n q d), some (rcB n bb)])) (Orc.c (Orc.c (Orc.c (Orc.c (Orc.c (Orc.c (Orc.c (Orc.c (Orc.c (Orc.t (Orc.t (Orc.t
  (Orc.f (Orc.f (Orc.f (Orc.f (Orc.f (Orc.f (Orc.f (Orc.f (Orc.f (Orc.f (Orc.f (Orc.f (Orc.c (Orc.cal [] (AV.sv 1 64 (byF sb)) [] (Orc.cal [0, 1, 2] (AV.i .i64 (0 : Int)) [Upd.set
  (rsA 3 w1), Upd.keep, Upd.gone, Upd.set (rsP w1)] (Orc.c (Orc.cal [0, 1, 7] (AV.i .i64 (0 : Int)) [Upd.set (rsA 2 b1), Upd.set (rsR b1), Upd.set (rsP b1)] (Orc.c
  Orc.z)))))))))))))))))))))))))))))) K = (True ∧ True ∧ (!decide (Int.ofNat n ≤ Int.ofNat i)) = true ∧ (!decide (Int.ofNat n ≤ Int.ofNat i)) = true ∧ (!decide (Int.ofNat n ≤
  Int.ofNat i)) = true ∧ decide (Int.ofNat n ≤ Int.ofNat i) = false ∧ decide ((51 : Int) < Int.ofNat (List.length x)) = false ∧ True ∧ ((0 : Int) ≤ Int.ofNat i ∧ Int.ofNat i < ↑n) ∧
  True ∧ i < n ∧ decide (Int.ofNat (q i) = (1099511627776 : Int)) = false ∧ True ∧ ((0 : Int) ≤ Int.ofNat i ∧ Int.ofNat i < ↑n) ∧ True ∧ i < n ∧ ((-9223372036854775808 : Int) ≤
  Int.ofNat (q i) + (1 : Int) ∧ Int.ofNat (q i) + (1 : Int) ≤ (9223372036854775807 : Int)) ∧ True ∧ ((0 : Int) ≤ Int.ofNat i ∧ Int.ofNat i < ↑n) ∧ True ∧ i < n ∧ decide ((0 : Int) <
  Int.ofNat (q i)) = false ∧ decide ((0 : Int) < Int.ofNat (q i)) = false ∧ decide ((0 : Int) < Int.ofNat (q i)) = false ∧ decide ((0 : Int) < Int.ofNat (q i)) = false ∧ decide ((0
  : Int) < Int.ofNat (q i)) = false ∧ decide ((0 : Int) < Int.ofNat (q i)) = false ∧ decide ((0 : Int) < Int.ofNat (q i)) = false ∧ decide ((0 : Int) < Int.ofNat (q i)) = false ∧
  decide ((0 : Int) < Int.ofNat (q i)) = false ∧ ((-9223372036854775808 : Int) ≤ (2 : Int) * Int.ofNat i ∧ (2 : Int) * Int.ofNat i ≤ (9223372036854775807 : Int)) ∧ True ∧ Con
  Tryd.prog 39 [AV.agg [AV.i .i64 (Int.ofNat (q i) + (1 : Int)), AV.s x]] [] (AV.sv 1 64 (byF sb)) [] ∧ Con Tryd.prog 38 [AV.p 0 0, AV.i .i64 ((2 : Int) * Int.ofNat i), AV.sv 1 64
  (byF sb)] [some (rsA 2 s), some (rsR s), some (rsP s)] (AV.i .i64 (0 : Int)) [Upd.set (rsA 3 w1), Upd.keep, Upd.gone, Upd.set (rsP w1)] ∧ True ∧ Con Tryd.prog 40 [AV.p 0 0] [some
  (rsA 2 w1), some (rsR s), some (rsP w1)] (AV.i .i64 (0 : Int)) [Upd.set (rsA 2 b1), Upd.set (rsR b1), Upd.set (rsP b1)] ∧ True ∧ ((0 : Int) ≤ Int.ofNat i ∧ Int.ofNat i < ↑n) ∧ i <
  n ∧ True ∧ ((0 : Int) ≤ Int.ofNat i ∧ Int.ofNat i < ↑n) ∧ i < n ∧ K (Res.rv (AV.i .i64 (0 : Int)) { tree := z1 (AObj.cells 51 5 [] (z1 (AV.lr 1 1 0 (SS.n b1) false) (z1 (AV.lr 7 2 0 (List.length (SS.P b1)) false) (zl (AV.i .i64 (SS.am b1))) T.e) (z1 (AV.i .i64 (Int.ofNat (SS.wr b1))) (zl (AV.b (SS.off b1))) T.e))) (z1 (AObj.rows 55 1 (SS.n b1) (imgF b1)) (z1 (AObj.cells 80 4 [] (z1 (AV.p 0 0) (z1 (AV.lr 4 2 0 n false) (zl (AV.b false)) T.e) (zl (AV.lr 5 1 0 n false)))) (zl (AObj.rows 91 2 (List.length (SS.P b1)) (penF (oA (SS.P b1)) (oB (SS.P b1))))) T.e) (zl (AObj.rows 4 1 n (setRow (secF bb) i 0 [CV.b false])))) (z0 (zl (AObj.rows 45 2 n (setRow (valF q d) i 0 [CV.i .i64 (Int.ofNat (q i) + (1 : Int)), CV.s x]))) (zl (AObj.cells 45 2 [AV.i .i64 (0 : Int), AV.s []] (z1 (AV.i .i64 (Int.ofNat (q i) + (1 : Int))) (zl (AV.s x)) T.e)))), next := 8, log := [5, 4, 7, 1, 0, 7, 2, 0, 6, 6] })
  Orc.z) := by kernel_rfl
theorem rputCF_vc (s : SS) (n : Nat) (i : Nat) (q : Nat → Nat) (d : Nat → List Nat) (bb : Nat → Bool) (sb : Nat → Nat) (w1 : SS) (x : List Nat) (h : decide (Int.ofNat i < 0) =
  false) (h2 : decide (Int.ofNat n ≤ Int.ofNat i) = false) (h3 : decide ((51 : Int) < Int.ofNat (List.length x)) = false) (h4 : decide (Int.ofNat (q i) = (1099511627776 : Int)) =
  false) (h5 : decide ((0 : Int) < Int.ofNat (q i)) = false) (K : Res → Orc → Prop) : runK Tryd.prog 1000000 (.call 17 [.p 3 0, .i .i64 (Int.ofNat i), .s x] (mkH [some (rsA 2 s),
  some (rsR s), some (rsP s), some (rcO 0 4 5 n false), some (rcV n q d), some (rcB n bb)])) (Orc.c (Orc.c (Orc.c (Orc.c (Orc.c (Orc.c (Orc.c (Orc.c (Orc.c (Orc.t (Orc.t (Orc.t
  (Orc.f (Orc.f (Orc.f (Orc.f (Orc.f (Orc.f (Orc.f (Orc.f (Orc.f (Orc.f (Orc.f (Orc.f (Orc.c (Orc.cal [] (AV.sv 1 64 (byF sb)) [] (Orc.cal [0, 1, 2] (AV.i .i64 (13 : Int)) [Upd.set
  (rsA 3 w1), Upd.keep, Upd.gone, Upd.set (rsP w1)] (Orc.c (Orc.c Orc.z))))))))))))))))))))))))))))) K = (True ∧ True ∧ (!decide (Int.ofNat n ≤ Int.ofNat i)) = true ∧ (!decide
  (Int.ofNat n ≤ Int.ofNat i)) = true ∧ (!decide (Int.ofNat n ≤ Int.ofNat i)) = true ∧ decide (Int.ofNat n ≤ Int.ofNat i) = false ∧ decide ((51 : Int) < Int.ofNat (List.length x)) =
  false ∧ True ∧ ((0 : Int) ≤ Int.ofNat i ∧ Int.ofNat i < ↑n) ∧ True ∧ i < n ∧ decide (Int.ofNat (q i) = (1099511627776 : Int)) = false ∧ True ∧ ((0 : Int) ≤ Int.ofNat i ∧ Int.ofNat
  i < ↑n) ∧ True ∧ i < n ∧ ((-9223372036854775808 : Int) ≤ Int.ofNat (q i) + (1 : Int) ∧ Int.ofNat (q i) + (1 : Int) ≤ (9223372036854775807 : Int)) ∧ True ∧ ((0 : Int) ≤ Int.ofNat i
  ∧ Int.ofNat i < ↑n) ∧ True ∧ i < n ∧ decide ((0 : Int) < Int.ofNat (q i)) = false ∧ decide ((0 : Int) < Int.ofNat (q i)) = false ∧ decide ((0 : Int) < Int.ofNat (q i)) = false ∧
  decide ((0 : Int) < Int.ofNat (q i)) = false ∧ decide ((0 : Int) < Int.ofNat (q i)) = false ∧ decide ((0 : Int) < Int.ofNat (q i)) = false ∧ decide ((0 : Int) < Int.ofNat (q i)) =
  false ∧ decide ((0 : Int) < Int.ofNat (q i)) = false ∧ decide ((0 : Int) < Int.ofNat (q i)) = false ∧ ((-9223372036854775808 : Int) ≤ (2 : Int) * Int.ofNat i ∧ (2 : Int) *
  Int.ofNat i ≤ (9223372036854775807 : Int)) ∧ True ∧ Con Tryd.prog 39 [AV.agg [AV.i .i64 (Int.ofNat (q i) + (1 : Int)), AV.s x]] [] (AV.sv 1 64 (byF sb)) [] ∧ Con Tryd.prog 38
  [AV.p 0 0, AV.i .i64 ((2 : Int) * Int.ofNat i), AV.sv 1 64 (byF sb)] [some (rsA 2 s), some (rsR s), some (rsP s)] (AV.i .i64 (13 : Int)) [Upd.set (rsA 3 w1), Upd.keep, Upd.gone,
  Upd.set (rsP w1)] ∧ True ∧ K (Res.rv (AV.i .i64 (13 : Int)) { tree := z1 (AObj.cells 51 5 [] (z1 (AV.lr 1 1 0 (SS.n w1) false) (z1 (AV.lr 7 2 0 (List.length (SS.P w1)) false) (zl (AV.i .i64 (SS.am w1))) T.e) (z1 (AV.i .i64 (Int.ofNat (SS.wr w1))) (zl (AV.b (SS.off w1))) T.e))) (z1 (AObj.rows 55 1 (SS.n s) (imgF s)) (z1 (AObj.cells 80 4 [] (z1 (AV.p 0 0) (z1 (AV.lr 4 2 0 n false) (zl (AV.b true)) T.e) (zl (AV.lr 5 1 0 n false)))) (zl (AObj.rows 91 2 (List.length (SS.P w1)) (penF (oA (SS.P w1)) (oB (SS.P w1))))) T.e) (zl (AObj.rows 4 1 n (secF bb)))) (z0 (zl (AObj.rows 45 2 n (valF q d))) (zl (AObj.cells 45 2 [AV.i .i64 (0 : Int), AV.s []] (z1 (AV.i .i64 (Int.ofNat (q i) + (1 : Int))) (zl (AV.s x)) T.e)))), next := 8, log := [3, 7, 2, 0, 6, 6] })
  Orc.z) := by kernel_rfl
theorem rputCO_vc (s : SS) (n : Nat) (i : Nat) (q : Nat → Nat) (d : Nat → List Nat) (bb : Nat → Bool) (sb : Nat → Nat) (x : List Nat) (h : decide (Int.ofNat i < 0) = false) (h2 :
  decide (Int.ofNat n ≤ Int.ofNat i) = false) (h3 : decide ((51 : Int) < Int.ofNat (List.length x)) = false) (h4 : decide (Int.ofNat (q i) = (1099511627776 : Int)) = false) (h5 :
  decide ((0 : Int) < Int.ofNat (q i)) = false) (K : Res → Orc → Prop) : runK Tryd.prog 1000000 (.call 17 [.p 3 0, .i .i64 (Int.ofNat i), .s x] (mkH [some (rsA 2 s), some (rsR s),
  some (rsP s), some (rcO 0 4 5 n false), some (rcV n q d), some (rcB n bb)])) (Orc.c (Orc.c (Orc.c (Orc.c (Orc.c (Orc.c (Orc.c (Orc.c (Orc.c (Orc.t (Orc.t (Orc.t (Orc.f (Orc.f
  (Orc.f (Orc.f (Orc.f (Orc.f (Orc.f (Orc.f (Orc.f (Orc.f (Orc.f (Orc.f (Orc.c (Orc.cal [] (AV.sv 1 64 (byF sb)) [] (Orc.cal [0, 1, 2] (AV.i .i64 (13 : Int)) [Upd.keep, Upd.keep,
  Upd.keep] (Orc.c (Orc.c Orc.z))))))))))))))))))))))))))))) K = (True ∧ True ∧ (!decide (Int.ofNat n ≤ Int.ofNat i)) = true ∧ (!decide (Int.ofNat n ≤ Int.ofNat i)) = true ∧
  (!decide (Int.ofNat n ≤ Int.ofNat i)) = true ∧ decide (Int.ofNat n ≤ Int.ofNat i) = false ∧ decide ((51 : Int) < Int.ofNat (List.length x)) = false ∧ True ∧ ((0 : Int) ≤ Int.ofNat
  i ∧ Int.ofNat i < ↑n) ∧ True ∧ i < n ∧ decide (Int.ofNat (q i) = (1099511627776 : Int)) = false ∧ True ∧ ((0 : Int) ≤ Int.ofNat i ∧ Int.ofNat i < ↑n) ∧ True ∧ i < n ∧
  ((-9223372036854775808 : Int) ≤ Int.ofNat (q i) + (1 : Int) ∧ Int.ofNat (q i) + (1 : Int) ≤ (9223372036854775807 : Int)) ∧ True ∧ ((0 : Int) ≤ Int.ofNat i ∧ Int.ofNat i < ↑n) ∧
  True ∧ i < n ∧ decide ((0 : Int) < Int.ofNat (q i)) = false ∧ decide ((0 : Int) < Int.ofNat (q i)) = false ∧ decide ((0 : Int) < Int.ofNat (q i)) = false ∧ decide ((0 : Int) <
  Int.ofNat (q i)) = false ∧ decide ((0 : Int) < Int.ofNat (q i)) = false ∧ decide ((0 : Int) < Int.ofNat (q i)) = false ∧ decide ((0 : Int) < Int.ofNat (q i)) = false ∧ decide ((0
  : Int) < Int.ofNat (q i)) = false ∧ decide ((0 : Int) < Int.ofNat (q i)) = false ∧ ((-9223372036854775808 : Int) ≤ (2 : Int) * Int.ofNat i ∧ (2 : Int) * Int.ofNat i ≤
  (9223372036854775807 : Int)) ∧ True ∧ Con Tryd.prog 39 [AV.agg [AV.i .i64 (Int.ofNat (q i) + (1 : Int)), AV.s x]] [] (AV.sv 1 64 (byF sb)) [] ∧ Con Tryd.prog 38 [AV.p 0 0, AV.i
  .i64 ((2 : Int) * Int.ofNat i), AV.sv 1 64 (byF sb)] [some (rsA 2 s), some (rsR s), some (rsP s)] (AV.i .i64 (13 : Int)) [Upd.keep, Upd.keep, Upd.keep] ∧ True ∧ K (Res.rv (AV.i
  .i64 (13 : Int)) { tree := z1 (AObj.cells 51 5 [] (z1 (AV.lr 1 1 0 (SS.n s) false) (z1 (AV.lr 2 2 0 (List.length (SS.P s)) false) (zl (AV.i .i64 (SS.am s))) T.e) (z1 (AV.i .i64 (Int.ofNat (SS.wr s))) (zl (AV.b (SS.off s))) T.e))) (z1 (AObj.rows 55 1 (SS.n s) (imgF s)) (zl (AObj.cells 80 4 [] (z1 (AV.p 0 0) (z1 (AV.lr 4 2 0 n false) (zl (AV.b true)) T.e) (zl (AV.lr 5 1 0 n false))))) (zl (AObj.rows 4 1 n (secF bb)))) (z1 (AObj.rows 91 2 (List.length (SS.P s)) (penF (oA (SS.P s)) (oB (SS.P s)))) (zl (AObj.rows 45 2 n (valF q d))) (zl (AObj.cells 45 2 [AV.i .i64 (0 : Int), AV.s []] (z1 (AV.i .i64 (Int.ofNat (q i) + (1 : Int))) (zl (AV.s x)) T.e)))), next := 7, log := [3, 6, 6] })
  Orc.z) := by kernel_rfl
end Go.Proofs.Cl
