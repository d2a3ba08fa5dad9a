/- Runs over unknown values, told by the kernel: part LbA. -/
import Derived.Test.YtnekjjidcknieaaLpA
set_option linter.unusedSimpArgs false
set_option linter.unusedVariables false
set_option maxRecDepth 20000
namespace Go.Proofs.Lk
open Go Go.Sim Go.Proofs
theorem a6s00_vc (t : TS) (n i l : Nat) (KK L S M : Nat → Int) (a b c so an : Int) (h1 : decide (a = 2) = false) (h2 : (!decide (a = 0)) = false) (K : Res → Orc → Prop) : runK Try.prog 1000000 (.code (loopAt Try.prog 6 2) 100 (mkT [(3, .p 0 0), (8, .i .i64 (Int.ofNat l)), (15, .sv 4 n (opC KK L S M)), (16, .i .i64 (Int.ofNat n)), (17, .i .i64 (Int.ofNat i)), (65, .i .i64 (Int.ofNat l)), (9, .i .i64 so), (10, .i .i64 an), (71, .agg [.i .i64 a, .i .i64 b, .i .i64 c]), (72, .i .i64 0)]) (mkH [some (tsS t)])) (oc 2 (Orc.f (Orc.f Orc.z))) K = (decide (a = 2) = false ∧ (!decide (a = 0)) = false ∧ ((-9223372036854775808 : Int) ≤ (1 : Int) ∧ (1 : Int) ≤ (9223372036854775807 : Int)) ∧ K (Res.st XO.nrm (z0 (z0 (z1 (AV.p 0 0) (z0 (z1 (AV.sv 4 n (opC KK L S M)) T.e (z0 (zl (AV.i .i64 a)) T.e)) (z0 (z0 (zl (AV.agg [AV.i .i64 a, AV.i .i64 b, AV.i .i64 c])) T.e) T.e)) (z0 (z0 T.e (z0 (zl (AV.i .i64 1))
  T.e)) (z0 (z0 (zl (AV.i .i64 a)) T.e) T.e))) (z0 (z1 (AV.i .i64 so) (z1 (AV.i .i64 (Int.ofNat i)) (z0 (zl (AV.i .i64 (Int.ofNat l))) T.e) T.e) (z0 (z0 (zl (AV.b true)) T.e) T.e)) T.e)) (z0 (z0 (z1 (AV.i .i64 (Int.ofNat l)) (z1 (AV.i .i64 (Int.ofNat n)) T.e (z0 (zl (AV.b !decide (a = 0))) T.e)) (z0 (z0 (zl (AV.i .i64 1)) T.e) T.e)) (z1 (AV.i .i64 a) T.e (z0 (z0 (zl (AV.b (decide (a = 2)))) T.e) T.e))) (z0 (z1 (AV.i .i64 an) T.e (z0 (z0 (zl (AV.i .i64 a)) T.e) T.e)) T.e))) ⟨zl (tsS t), 1, []⟩) Orc.z) := by kernel_rfl
theorem a6s01_vc (t : TS) (n i l : Nat) (KK L S M : Nat → Int) (a b c so an : Int) (h1 : decide (a = 2) = false) (h2 : (!decide (a = 0)) = true) (K : Res → Orc → Prop) : runK Try.prog 1000000 (.code (loopAt Try.prog 6 2) 100 (mkT [(3, .p 0 0), (8, .i .i64 (Int.ofNat l)), (15, .sv 4 n (opC KK L S M)), (16, .i .i64 (Int.ofNat n)), (17, .i .i64 (Int.ofNat i)), (65, .i .i64 (Int.ofNat l)), (9, .i .i64 so), (10, .i .i64 an), (71, .agg [.i .i64 a, .i .i64 b, .i .i64 c]), (72, .i .i64 0)]) (mkH [some (tsS t)])) (oc 2 (Orc.f (Orc.t Orc.z))) K = (decide (a = 2) = false ∧ (!decide (a = 0)) = true ∧ ((-9223372036854775808) ≤ an + 1 ∧ an + (1 : Int) ≤ (9223372036854775807 : Int)) ∧ ((-9223372036854775808 : Int) ≤ (1 : Int) ∧ (1 : Int) ≤ (9223372036854775807 : Int)) ∧ K (Res.st XO.nrm (z0 (z0 (z1 (AV.p 0 0) (z0 (z1 (AV.sv 4 n (opC KK L S M)) T.e (z0 (zl (AV.i .i64 a)) T.e)) (z0 (z0 (zl (AV.agg [AV.i
  .i64 a, AV.i .i64 b, AV.i .i64 c])) T.e) T.e)) (z0 (z0 T.e (z0 (zl (AV.i .i64 1)) T.e)) (z0 (z0 (zl (AV.i .i64 a)) T.e) T.e))) (z0 (z1 (AV.i .i64 so) (z1 (AV.i .i64 (Int.ofNat i)) (z0 (zl (AV.i .i64 (Int.ofNat l))) T.e) (z0 (zl (AV.i .i64 an)) T.e)) (z0 (z0 (zl (AV.b true)) T.e) T.e)) T.e)) (z0 (z0 (z1 (AV.i .i64 (Int.ofNat l)) (z1 (AV.i .i64 (Int.ofNat n)) T.e (z0 (zl (AV.b !decide (a = 0))) T.e)) (z0 (z0 (zl (AV.i .i64 1)) T.e) T.e)) (z1 (AV.i .i64 a) T.e (z0 (z0 (zl (AV.b (decide (a = 2)))) T.e) T.e))) (z0 (z1 (AV.i .i64 (an + 1)) (z0 T.e (z0 (zl (AV.i .i64 (an + 1))) T.e)) (z0 (z0 (zl (AV.i .i64 a)) T.e) T.e)) T.e))) ⟨zl (tsS t), 1, []⟩) Orc.z) := by kernel_rfl
theorem a6s02_vc (t : TS) (n i l : Nat) (KK L S M : Nat → Int) (a b c so an : Int) (h1 : decide (a = 2) = true) (h2 : (!decide (a = 0)) = true) (K : Res → Orc → Prop) : runK Try.prog 1000000 (.code (loopAt Try.prog 6 2) 100 (mkT [(3, .p 0 0), (8, .i .i64 (Int.ofNat l)), (15, .sv 4 n (opC KK L S M)), (16, .i .i64 (Int.ofNat n)), (17, .i .i64 (Int.ofNat i)), (65, .i .i64 (Int.ofNat l)), (9, .i .i64 so), (10, .i .i64 an), (71, .agg [.i .i64 a, .i .i64 b, .i .i64 c]), (72, .i .i64 0)]) (mkH [some (tsS t)])) (oc 2 (Orc.t (Orc.t Orc.z))) K = (decide (a = 2) = true ∧ ((-9223372036854775808) ≤ so + 1 ∧ so + (1 : Int) ≤ (9223372036854775807 : Int)) ∧ (!decide (a = 0)) = true ∧ ((-9223372036854775808) ≤ an + 1 ∧ an + (1 : Int) ≤ (9223372036854775807 : Int)) ∧ ((-9223372036854775808 : Int) ≤ (1 : Int) ∧ (1 : Int) ≤ (9223372036854775807 : Int)) ∧ K (Res.st XO.nrm (z0 (z0 (z1 (AV.p 0 0) (z0 (z1
  (AV.sv 4 n (opC KK L S M)) T.e (z0 (zl (AV.i .i64 a)) T.e)) (z0 (z0 (zl (AV.agg [AV.i .i64 a, AV.i .i64 b, AV.i .i64 c])) T.e) T.e)) (z0 (z0 T.e (z0 (zl (AV.i .i64 1)) T.e)) (z0 (z0 (zl (AV.i .i64 a)) T.e) T.e))) (z0 (z1 (AV.i .i64 (so + 1)) (z1 (AV.i .i64 (Int.ofNat i)) (z0 (zl (AV.i .i64 (Int.ofNat l))) T.e) (z0 (zl (AV.i .i64 an)) T.e)) (z0 (z0 (zl (AV.b true)) T.e) T.e)) (z0 T.e (z0 (z0 (zl (AV.i .i64 so)) T.e) T.e)))) (z0 (z0 (z1 (AV.i .i64 (Int.ofNat l)) (z1 (AV.i .i64 (Int.ofNat n)) T.e (z0 (zl (AV.b !decide (a = 0))) T.e)) (z0 (z0 (zl (AV.i .i64 1)) T.e) T.e)) (z1 (AV.i .i64 a) T.e (z0 (z0 (zl (AV.b (decide (a = 2)))) T.e) T.e))) (z0 (z1 (AV.i .i64 (an + 1)) (z0 T.e (z0 (zl (AV.i .i64 (an + 1))) T.e)) (z0 (z0 (zl (AV.i .i64 a)) T.e) T.e)) (z0 T.e (z0 (z0 (zl (AV.i .i64 (so + 1))) T.e) T.e))))) ⟨zl (tsS t), 1, []⟩) Orc.z) := by kernel_rfl
theorem a6s10_vc (t : TS) (n i l : Nat) (KK L S M : Nat → Int) (a b c so an : Int) (h1 : decide (b = 2) = false) (h2 : (!decide (b = 0)) = false) (K : Res → Orc → Prop) : runK Try.prog 1000000 (.code (loopAt Try.prog 6 2) 100 (mkT [(3, .p 0 0), (8, .i .i64 (Int.ofNat l)), (15, .sv 4 n (opC KK L S M)), (16, .i .i64 (Int.ofNat n)), (17, .i .i64 (Int.ofNat i)), (65, .i .i64 (Int.ofNat l)), (9, .i .i64 so), (10, .i .i64 an), (71, .agg [.i .i64 a, .i .i64 b, .i .i64 c]), (72, .i .i64 1)]) (mkH [some (tsS t)])) (oc 2 (Orc.f (Orc.f Orc.z))) K = (decide (b = 2) = false ∧ (!decide (b = 0)) = false ∧ ((-9223372036854775808 : Int) ≤ (2 : Int) ∧ (2 : Int) ≤ (9223372036854775807 : Int)) ∧ K (Res.st XO.nrm (z0 (z0 (z1 (AV.p 0 0) (z0 (z1 (AV.sv 4 n (opC KK L S M)) T.e (z0 (zl (AV.i .i64 b)) T.e)) (z0 (z0 (zl (AV.agg [AV.i .i64 a, AV.i .i64 b, AV.i .i64 c])) T.e) T.e)) (z0 (z0 T.e (z0 (zl (AV.i .i64 2))
  T.e)) (z0 (z0 (zl (AV.i .i64 b)) T.e) T.e))) (z0 (z1 (AV.i .i64 so) (z1 (AV.i .i64 (Int.ofNat i)) (z0 (zl (AV.i .i64 (Int.ofNat l))) T.e) T.e) (z0 (z0 (zl (AV.b true)) T.e) T.e)) T.e)) (z0 (z0 (z1 (AV.i .i64 (Int.ofNat l)) (z1 (AV.i .i64 (Int.ofNat n)) T.e (z0 (zl (AV.b !decide (b = 0))) T.e)) (z0 (z0 (zl (AV.i .i64 2)) T.e) T.e)) (z1 (AV.i .i64 b) T.e (z0 (z0 (zl (AV.b (decide (b = 2)))) T.e) T.e))) (z0 (z1 (AV.i .i64 an) T.e (z0 (z0 (zl (AV.i .i64 b)) T.e) T.e)) T.e))) ⟨zl (tsS t), 1, []⟩) Orc.z) := by kernel_rfl
theorem a6s11_vc (t : TS) (n i l : Nat) (KK L S M : Nat → Int) (a b c so an : Int) (h1 : decide (b = 2) = false) (h2 : (!decide (b = 0)) = true) (K : Res → Orc → Prop) : runK Try.prog 1000000 (.code (loopAt Try.prog 6 2) 100 (mkT [(3, .p 0 0), (8, .i .i64 (Int.ofNat l)), (15, .sv 4 n (opC KK L S M)), (16, .i .i64 (Int.ofNat n)), (17, .i .i64 (Int.ofNat i)), (65, .i .i64 (Int.ofNat l)), (9, .i .i64 so), (10, .i .i64 an), (71, .agg [.i .i64 a, .i .i64 b, .i .i64 c]), (72, .i .i64 1)]) (mkH [some (tsS t)])) (oc 2 (Orc.f (Orc.t Orc.z))) K = (decide (b = 2) = false ∧ (!decide (b = 0)) = true ∧ ((-9223372036854775808) ≤ an + 1 ∧ an + (1 : Int) ≤ (9223372036854775807 : Int)) ∧ ((-9223372036854775808 : Int) ≤ (2 : Int) ∧ (2 : Int) ≤ (9223372036854775807 : Int)) ∧ K (Res.st XO.nrm (z0 (z0 (z1 (AV.p 0 0) (z0 (z1 (AV.sv 4 n (opC KK L S M)) T.e (z0 (zl (AV.i .i64 b)) T.e)) (z0 (z0 (zl (AV.agg [AV.i
  .i64 a, AV.i .i64 b, AV.i .i64 c])) T.e) T.e)) (z0 (z0 T.e (z0 (zl (AV.i .i64 2)) T.e)) (z0 (z0 (zl (AV.i .i64 b)) T.e) T.e))) (z0 (z1 (AV.i .i64 so) (z1 (AV.i .i64 (Int.ofNat i)) (z0 (zl (AV.i .i64 (Int.ofNat l))) T.e) (z0 (zl (AV.i .i64 an)) T.e)) (z0 (z0 (zl (AV.b true)) T.e) T.e)) T.e)) (z0 (z0 (z1 (AV.i .i64 (Int.ofNat l)) (z1 (AV.i .i64 (Int.ofNat n)) T.e (z0 (zl (AV.b !decide (b = 0))) T.e)) (z0 (z0 (zl (AV.i .i64 2)) T.e) T.e)) (z1 (AV.i .i64 b) T.e (z0 (z0 (zl (AV.b (decide (b = 2)))) T.e) T.e))) (z0 (z1 (AV.i .i64 (an + 1)) (z0 T.e (z0 (zl (AV.i .i64 (an + 1))) T.e)) (z0 (z0 (zl (AV.i .i64 b)) T.e) T.e)) T.e))) ⟨zl (tsS t), 1, []⟩) Orc.z) := by kernel_rfl
theorem a6s12_vc (t : TS) (n i l : Nat) (KK L S M : Nat → Int) (a b c so an : Int) (h1 : decide (b = 2) = true) (h2 : (!decide (b = 0)) = true) (K : Res → Orc → Prop) : runK Try.prog 1000000 (.code (loopAt Try.prog 6 2) 100 (mkT [(3, .p 0 0), (8, .i .i64 (Int.ofNat l)), (15, .sv 4 n (opC KK L S M)), (16, .i .i64 (Int.ofNat n)), (17, .i .i64 (Int.ofNat i)), (65, .i .i64 (Int.ofNat l)), (9, .i .i64 so), (10, .i .i64 an), (71, .agg [.i .i64 a, .i .i64 b, .i .i64 c]), (72, .i .i64 1)]) (mkH [some (tsS t)])) (oc 2 (Orc.t (Orc.t Orc.z))) K = (decide (b = 2) = true ∧ ((-9223372036854775808) ≤ so + 1 ∧ so + (1 : Int) ≤ (9223372036854775807 : Int)) ∧ (!decide (b = 0)) = true ∧ ((-9223372036854775808) ≤ an + 1 ∧ an + (1 : Int) ≤ (9223372036854775807 : Int)) ∧ ((-9223372036854775808 : Int) ≤ (2 : Int) ∧ (2 : Int) ≤ (9223372036854775807 : Int)) ∧ K (Res.st XO.nrm (z0 (z0 (z1 (AV.p 0 0) (z0 (z1
  (AV.sv 4 n (opC KK L S M)) T.e (z0 (zl (AV.i .i64 b)) T.e)) (z0 (z0 (zl (AV.agg [AV.i .i64 a, AV.i .i64 b, AV.i .i64 c])) T.e) T.e)) (z0 (z0 T.e (z0 (zl (AV.i .i64 2)) T.e)) (z0 (z0 (zl (AV.i .i64 b)) T.e) T.e))) (z0 (z1 (AV.i .i64 (so + 1)) (z1 (AV.i .i64 (Int.ofNat i)) (z0 (zl (AV.i .i64 (Int.ofNat l))) T.e) (z0 (zl (AV.i .i64 an)) T.e)) (z0 (z0 (zl (AV.b true)) T.e) T.e)) (z0 T.e (z0 (z0 (zl (AV.i .i64 so)) T.e) T.e)))) (z0 (z0 (z1 (AV.i .i64 (Int.ofNat l)) (z1 (AV.i .i64 (Int.ofNat n)) T.e (z0 (zl (AV.b !decide (b = 0))) T.e)) (z0 (z0 (zl (AV.i .i64 2)) T.e) T.e)) (z1 (AV.i .i64 b) T.e (z0 (z0 (zl (AV.b (decide (b = 2)))) T.e) T.e))) (z0 (z1 (AV.i .i64 (an + 1)) (z0 T.e (z0 (zl (AV.i .i64 (an + 1))) T.e)) (z0 (z0 (zl (AV.i .i64 b)) T.e) T.e)) (z0 T.e (z0 (z0 (zl (AV.i .i64 (so + 1))) T.e) T.e))))) ⟨zl (tsS t), 1, []⟩) Orc.z) := by kernel_rfl
theorem a6s20_vc (t : TS) (n i l : Nat) (KK L S M : Nat → Int) (a b c so an : Int) (h1 : decide (c = 2) = false) (h2 : (!decide (c = 0)) = false) (K : Res → Orc → Prop) : runK Try.prog 1000000 (.code (loopAt Try.prog 6 2) 100 (mkT [(3, .p 0 0), (8, .i .i64 (Int.ofNat l)), (15, .sv 4 n (opC KK L S M)), (16, .i .i64 (Int.ofNat n)), (17, .i .i64 (Int.ofNat i)), (65, .i .i64 (Int.ofNat l)), (9, .i .i64 so), (10, .i .i64 an), (71, .agg [.i .i64 a, .i .i64 b, .i .i64 c]), (72, .i .i64 2)]) (mkH [some (tsS t)])) (oc 2 (Orc.f (Orc.f Orc.z))) K = (decide (c = 2) = false ∧ (!decide (c = 0)) = false ∧ ((-9223372036854775808 : Int) ≤ (3 : Int) ∧ (3 : Int) ≤ (9223372036854775807 : Int)) ∧ K (Res.st XO.nrm (z0 (z0 (z1 (AV.p 0 0) (z0 (z1 (AV.sv 4 n (opC KK L S M)) T.e (z0 (zl (AV.i .i64 c)) T.e)) (z0 (z0 (zl (AV.agg [AV.i .i64 a, AV.i .i64 b, AV.i .i64 c])) T.e) T.e)) (z0 (z0 T.e (z0 (zl (AV.i .i64 3))
  T.e)) (z0 (z0 (zl (AV.i .i64 c)) T.e) T.e))) (z0 (z1 (AV.i .i64 so) (z1 (AV.i .i64 (Int.ofNat i)) (z0 (zl (AV.i .i64 (Int.ofNat l))) T.e) T.e) (z0 (z0 (zl (AV.b true)) T.e) T.e)) T.e)) (z0 (z0 (z1 (AV.i .i64 (Int.ofNat l)) (z1 (AV.i .i64 (Int.ofNat n)) T.e (z0 (zl (AV.b !decide (c = 0))) T.e)) (z0 (z0 (zl (AV.i .i64 3)) T.e) T.e)) (z1 (AV.i .i64 c) T.e (z0 (z0 (zl (AV.b (decide (c = 2)))) T.e) T.e))) (z0 (z1 (AV.i .i64 an) T.e (z0 (z0 (zl (AV.i .i64 c)) T.e) T.e)) T.e))) ⟨zl (tsS t), 1, []⟩) Orc.z) := by kernel_rfl
theorem a6s21_vc (t : TS) (n i l : Nat) (KK L S M : Nat → Int) (a b c so an : Int) (h1 : decide (c = 2) = false) (h2 : (!decide (c = 0)) = true) (K : Res → Orc → Prop) : runK Try.prog 1000000 (.code (loopAt Try.prog 6 2) 100 (mkT [(3, .p 0 0), (8, .i .i64 (Int.ofNat l)), (15, .sv 4 n (opC KK L S M)), (16, .i .i64 (Int.ofNat n)), (17, .i .i64 (Int.ofNat i)), (65, .i .i64 (Int.ofNat l)), (9, .i .i64 so), (10, .i .i64 an), (71, .agg [.i .i64 a, .i .i64 b, .i .i64 c]), (72, .i .i64 2)]) (mkH [some (tsS t)])) (oc 2 (Orc.f (Orc.t Orc.z))) K = (decide (c = 2) = false ∧ (!decide (c = 0)) = true ∧ ((-9223372036854775808) ≤ an + 1 ∧ an + (1 : Int) ≤ (9223372036854775807 : Int)) ∧ ((-9223372036854775808 : Int) ≤ (3 : Int) ∧ (3 : Int) ≤ (9223372036854775807 : Int)) ∧ K (Res.st XO.nrm (z0 (z0 (z1 (AV.p 0 0) (z0 (z1 (AV.sv 4 n (opC KK L S M)) T.e (z0 (zl (AV.i .i64 c)) T.e)) (z0 (z0 (zl (AV.agg [AV.i
  .i64 a, AV.i .i64 b, AV.i .i64 c])) T.e) T.e)) (z0 (z0 T.e (z0 (zl (AV.i .i64 3)) T.e)) (z0 (z0 (zl (AV.i .i64 c)) T.e) T.e))) (z0 (z1 (AV.i .i64 so) (z1 (AV.i .i64 (Int.ofNat i)) (z0 (zl (AV.i .i64 (Int.ofNat l))) T.e) (z0 (zl (AV.i .i64 an)) T.e)) (z0 (z0 (zl (AV.b true)) T.e) T.e)) T.e)) (z0 (z0 (z1 (AV.i .i64 (Int.ofNat l)) (z1 (AV.i .i64 (Int.ofNat n)) T.e (z0 (zl (AV.b !decide (c = 0))) T.e)) (z0 (z0 (zl (AV.i .i64 3)) T.e) T.e)) (z1 (AV.i .i64 c) T.e (z0 (z0 (zl (AV.b (decide (c = 2)))) T.e) T.e))) (z0 (z1 (AV.i .i64 (an + 1)) (z0 T.e (z0 (zl (AV.i .i64 (an + 1))) T.e)) (z0 (z0 (zl (AV.i .i64 c)) T.e) T.e)) T.e))) ⟨zl (tsS t), 1, []⟩) Orc.z) := by kernel_rfl
theorem a6s22_vc (t : TS) (n i l : Nat) (KK L S M : Nat → Int) (a b c so an : Int) (h1 : decide (c = 2) = true) (h2 : (!decide (c = 0)) = true) (K : Res → Orc → Prop) : runK Try.prog 1000000 (.code (loopAt Try.prog 6 2) 100 (mkT [(3, .p 0 0), (8, .i .i64 (Int.ofNat l)), (15, .sv 4 n (opC KK L S M)), (16, .i .i64 (Int.ofNat n)), (17, .i .i64 (Int.ofNat i)), (65, .i .i64 (Int.ofNat l)), (9, .i .i64 so), (10, .i .i64 an), (71, .agg [.i .i64 a, .i .i64 b, .i .i64 c]), (72, .i .i64 2)]) (mkH [some (tsS t)])) (oc 2 (Orc.t (Orc.t Orc.z))) K = (decide (c = 2) = true ∧ ((-9223372036854775808) ≤ so + 1 ∧ so + (1 : Int) ≤ (9223372036854775807 : Int)) ∧ (!decide (c = 0)) = true ∧ ((-9223372036854775808) ≤ an + 1 ∧ an + (1 : Int) ≤ (9223372036854775807 : Int)) ∧ ((-9223372036854775808 : Int) ≤ (3 : Int) ∧ (3 : Int) ≤ (9223372036854775807 : Int)) ∧ K (Res.st XO.nrm (z0 (z0 (z1 (AV.p 0 0) (z0 (z1
  (AV.sv 4 n (opC KK L S M)) T.e (z0 (zl (AV.i .i64 c)) T.e)) (z0 (z0 (zl (AV.agg [AV.i .i64 a, AV.i .i64 b, AV.i .i64 c])) T.e) T.e)) (z0 (z0 T.e (z0 (zl (AV.i .i64 3)) T.e)) (z0 (z0 (zl (AV.i .i64 c)) T.e) T.e))) (z0 (z1 (AV.i .i64 (so + 1)) (z1 (AV.i .i64 (Int.ofNat i)) (z0 (zl (AV.i .i64 (Int.ofNat l))) T.e) (z0 (zl (AV.i .i64 an)) T.e)) (z0 (z0 (zl (AV.b true)) T.e) T.e)) (z0 T.e (z0 (z0 (zl (AV.i .i64 so)) T.e) T.e)))) (z0 (z0 (z1 (AV.i .i64 (Int.ofNat l)) (z1 (AV.i .i64 (Int.ofNat n)) T.e (z0 (zl (AV.b !decide (c = 0))) T.e)) (z0 (z0 (zl (AV.i .i64 3)) T.e) T.e)) (z1 (AV.i .i64 c) T.e (z0 (z0 (zl (AV.b (decide (c = 2)))) T.e) T.e))) (z0 (z1 (AV.i .i64 (an + 1)) (z0 T.e (z0 (zl (AV.i .i64 (an + 1))) T.e)) (z0 (z0 (zl (AV.i .i64 c)) T.e) T.e)) (z0 T.e (z0 (z0 (zl (AV.i .i64 (so + 1))) T.e) T.e))))) ⟨zl (tsS t), 1, []⟩) Orc.z) := by kernel_rfl
theorem a6e_vc (t : TS) (n i l : Nat) (KK L S M : Nat → Int) (a b c so an : Int) (K : Res → Orc → Prop) : runK Try.prog 1000000 (.code (loopAt Try.prog 6 2) 100 (mkT [(3, .p 0 0), (8, .i .i64 (Int.ofNat l)), (15, .sv 4 n (opC KK L S M)), (16, .i .i64 (Int.ofNat n)), (17, .i .i64 (Int.ofNat i)), (65, .i .i64 (Int.ofNat l)), (9, .i .i64 so), (10, .i .i64 an), (71, .agg [.i .i64 a, .i .i64 b, .i .i64 c]), (72, .i .i64 3)]) (mkH [some (tsS t)])) (Orc.c Orc.z) K = (K (Res.st (XO.exit 5) (z0 (z0 (z1 (AV.p 0 0) (z0 (zl (AV.sv 4 n (opC KK L S M))) (z0 (z0 (zl (AV.agg [AV.i .i64 a, AV.i .i64 b, AV.i .i64 c])) T.e) T.e)) T.e) (z0 (z1 (AV.i .i64 so) (z1 (AV.i .i64 (Int.ofNat i)) (z0 (zl (AV.i .i64 (Int.ofNat l))) T.e) T.e) (z0 (z0 (zl (AV.b false)) T.e) T.e)) T.e)) (z0 (z0 (z1 (AV.i .i64 (Int.ofNat l)) (zl (AV.i .i64 (Int.ofNat n))) (z0 (z0 (zl (AV.i .i64 3)) T.e) T.e)) T.e) (z0 (zl (AV.i .i64 an))
  T.e))) ⟨zl (tsS t), 1, []⟩) Orc.z) := by kernel_rfl
theorem a6P_vc (t : TS) (so : Int) (an : Int) (n i l : Nat) (KK L S M : Nat → Int) (h1 : decide (Int.ofNat l < 19) = true) (h2 : decide (0 < so) = true) (h3 : decide (1 < an) = false) (h4 : decide (3 < Int.ofNat (t.n l)) = false) (K : Res → Orc → Prop) : runK Try.prog 1000000 (.code (loopAt Try.prog 6 1) 100 (mkT [(3, .p 0 0), (15, .sv 4 n (opC KK L S M)), (16, .i .i64 (Int.ofNat n)), (17, .i .i64 (Int.ofNat i)), (65, .i .i64 (Int.ofNat l))]) (mkH [some (tsS t)])) (Orc.t (Orc.s (Orc.lop [0] [3, 8, 15, 16, 17, 65, 9, 10, 71, 72] 1 (XO.exit 5) [(3, AV.p 0 0), (8, AV.i .i64 (Int.ofNat l)), (15, AV.sv 4 n (opC KK L S M)), (16, AV.i .i64 (Int.ofNat n)), (17, AV.i .i64 (Int.ofNat i)), (65, AV.i .i64 (Int.ofNat l)), (9, AV.i .i64 so), (10, AV.i .i64 an)] [some (tsS t)] (Orc.t (Orc.t (Orc.t (Orc.t (Orc.t (Orc.t (Orc.s (Orc.t (Orc.t (Orc.t (Orc.f (Orc.f Orc.z))))) Orc.z)))))))) Orc.z)) K =
  (decide (Int.ofNat l < 19) = true ∧ True ∧ (0 ≤ Int.ofNat l ∧ Int.ofNat l < 19) ∧ l < 19 ∧ LDoes Try.prog (loopAt Try.prog 6 2) 100 1 (mkT [(3, AV.p 0 0), (8, AV.i .i64 (Int.ofNat l)), (15, AV.sv 4 n (opC KK L S M)), (16, AV.i .i64 (Int.ofNat n)), (17, AV.i .i64 (Int.ofNat i)), (65, AV.i .i64 (Int.ofNat l)), (9, AV.i .i64 0), (10, AV.i .i64 0), (71, AV.agg [AV.i .i64 (TS.h t l 0), AV.i .i64 (TS.h t l 1), AV.i .i64 (TS.h t l 2)]), (72, AV.i .i64 0)]) [some (tsS t)] (XO.exit 5) (mkT [(3, AV.p 0 0), (8, AV.i .i64 (Int.ofNat l)), (15, AV.sv 4 n (opC KK L S M)), (16, AV.i .i64 (Int.ofNat n)), (17, AV.i .i64 (Int.ofNat i)), (65, AV.i .i64 (Int.ofNat l)), (9, AV.i .i64 so), (10, AV.i .i64 an)]) [some (tsS t)] ∧ decide (0 < so) = true ∧ decide (0 < so) = true ∧ decide (0 < so) = true ∧ (!decide (1 < an)) = true ∧ (!decide (1 < an)) = true ∧ True ∧ (!decide (1 < an)) = true ∧ (0 ≤ Int.ofNat l ∧
  Int.ofNat l < 19) ∧ (!decide (1 < an)) = true ∧ l < 19 ∧ (!decide (1 < an)) = true ∧ (!decide (1 < an)) = true ∧ decide (1 < an) = false ∧ decide (3 < Int.ofNat (TS.n t l)) = false ∧ ((-9223372036854775808) ≤ Int.ofNat l + 1 ∧ Int.ofNat l + (1 : Int) ≤ (9223372036854775807 : Int)) ∧ K (Res.st XO.nrm (z0 (z0 (z1 (AV.p 0 0) (z0 (z1 (AV.sv 4 n (opC KK L S M)) (z0 T.e (zl (AV.i .i64 (Int.ofNat (TS.n t l))))) T.e) (z0 T.e (z0 (zl (AV.i .i64 an)) T.e))) (z0 T.e (z0 T.e (z0 (zl (AV.i .i64 (Int.ofNat l))) T.e)))) (z0 (z1 (AV.i .i64 so) (z1 (AV.i .i64 (Int.ofNat i)) (z0 (zl (AV.i .i64 (Int.ofNat l + 1))) (zl (AV.b (decide (3 < Int.ofNat (TS.n t l)))))) T.e) (z0 T.e (z0 (zl (AV.b (decide (1 < an)))) T.e))) (z0 (z0 T.e (z0 (zl (AV.b (decide (0 < so)))) T.e)) (z0 T.e (z0 (zl (AV.ps 0 101 1 19 l)) T.e))))) (z0 (z0 (z1 (AV.i .i64 (Int.ofNat l)) (z1 (AV.i .i64 (Int.ofNat n)) (z0 T.e (zl (AV.b (decide
  (3 < Int.ofNat (TS.n t l)))))) T.e) (z0 T.e (z0 (zl (AV.b (decide (1 < an)))) T.e))) (z0 (z0 T.e (z0 (zl (AV.i .i64 so)) T.e)) (z0 T.e (z0 (zl (AV.p 0 101)) T.e)))) (z0 (z1 (AV.i .i64 an) (z0 (z0 T.e (zl (AV.i .i64 (Int.ofNat l + 1)))) T.e) (z0 T.e (z0 (zl (AV.b (decide (1 < an)))) T.e))) (z0 (z0 T.e (z0 (zl (AV.b (decide (0 < so)))) T.e)) (z0 T.e (z0 (zl (AV.sv 3 (TS.n t l) (qF (TS.A t (Int.toNat (Int.ofNat l))) (TS.M t (Int.toNat (Int.ofNat l))) (TS.W t (Int.toNat (Int.ofNat l)))))) T.e)))))) ⟨zl (tsS t), 1, [0]⟩) Orc.z) := by kernel_rfl
theorem a6Q_vc (t : TS) (so : Int) (an : Int) (n i l : Nat) (KK L S M : Nat → Int) (h1 : decide (Int.ofNat l < 19) = true) (h2 : decide (0 < so) = false) (h4 : decide (3 < Int.ofNat (t.n l)) = false) (K : Res → Orc → Prop) : runK Try.prog 1000000 (.code (loopAt Try.prog 6 1) 100 (mkT [(3, .p 0 0), (15, .sv 4 n (opC KK L S M)), (16, .i .i64 (Int.ofNat n)), (17, .i .i64 (Int.ofNat i)), (65, .i .i64 (Int.ofNat l))]) (mkH [some (tsS t)])) (Orc.t (Orc.s (Orc.lop [0] [3, 8, 15, 16, 17, 65, 9, 10, 71, 72] 1 (XO.exit 5) [(3, AV.p 0 0), (8, AV.i .i64 (Int.ofNat l)), (15, AV.sv 4 n (opC KK L S M)), (16, AV.i .i64 (Int.ofNat n)), (17, AV.i .i64 (Int.ofNat i)), (65, AV.i .i64 (Int.ofNat l)), (9, AV.i .i64 so), (10, AV.i .i64 an)] [some (tsS t)] (Orc.f (Orc.f (Orc.f (oc 3 (Orc.s (oc 4 (Orc.f Orc.z)) Orc.z)))))) Orc.z)) K = (decide (Int.ofNat l < 19) = true ∧ True ∧ (0 ≤ Int.ofNat l ∧ Int.ofNat l <
  19) ∧ l < 19 ∧ LDoes Try.prog (loopAt Try.prog 6 2) 100 1 (mkT [(3, AV.p 0 0), (8, AV.i .i64 (Int.ofNat l)), (15, AV.sv 4 n (opC KK L S M)), (16, AV.i .i64 (Int.ofNat n)), (17, AV.i .i64 (Int.ofNat i)), (65, AV.i .i64 (Int.ofNat l)), (9, AV.i .i64 0), (10, AV.i .i64 0), (71, AV.agg [AV.i .i64 (TS.h t l 0), AV.i .i64 (TS.h t l 1), AV.i .i64 (TS.h t l 2)]), (72, AV.i .i64 0)]) [some (tsS t)] (XO.exit 5) (mkT [(3, AV.p 0 0), (8, AV.i .i64 (Int.ofNat l)), (15, AV.sv 4 n (opC KK L S M)), (16, AV.i .i64 (Int.ofNat n)), (17, AV.i .i64 (Int.ofNat i)), (65, AV.i .i64 (Int.ofNat l)), (9, AV.i .i64 so), (10, AV.i .i64 an)]) [some (tsS t)] ∧ decide (0 < so) = false ∧ decide (0 < so) = false ∧ decide (0 < so) = false ∧ True ∧ (0 ≤ Int.ofNat l ∧ Int.ofNat l < 19) ∧ l < 19 ∧ decide (3 < Int.ofNat (TS.n t l)) = false ∧ ((-9223372036854775808) ≤ Int.ofNat l + 1 ∧ Int.ofNat l + (1 : Int) ≤
  (9223372036854775807 : Int)) ∧ K (Res.st XO.nrm (z0 (z0 (z1 (AV.p 0 0) (z0 (z1 (AV.sv 4 n (opC KK L S M)) (z0 T.e (zl (AV.i .i64 (Int.ofNat (TS.n t l))))) T.e) (z0 T.e (z0 (zl (AV.tup [])) T.e))) (z0 T.e (z0 T.e (z0 (zl (AV.i .i64 (Int.ofNat l))) T.e)))) (z0 (z1 (AV.i .i64 so) (z1 (AV.i .i64 (Int.ofNat i)) (z0 (zl (AV.i .i64 (Int.ofNat l + 1))) (zl (AV.b (decide (3 < Int.ofNat (TS.n t l)))))) T.e) (z0 T.e (z0 (zl (AV.b false)) T.e))) (z0 (z0 T.e (z0 (zl (AV.b (decide (0 < so)))) T.e)) (z0 T.e (z0 (zl (AV.ps 0 101 1 19 l)) T.e))))) (z0 (z0 (z1 (AV.i .i64 (Int.ofNat l)) (z1 (AV.i .i64 (Int.ofNat n)) (z0 T.e (zl (AV.b (decide (3 < Int.ofNat (TS.n t l)))))) T.e) (z0 T.e (z0 (zl (AV.tup [])) T.e))) (z0 (z0 T.e (z0 (zl (AV.i .i64 so)) T.e)) (z0 T.e (z0 (zl (AV.p 0 101)) T.e)))) (z0 (z1 (AV.i .i64 an) (z0 (z0 T.e (zl (AV.i .i64 (Int.ofNat l + 1)))) T.e) (z0 T.e (z0 (zl (AV.b false)) T.e))) (z0
  (z0 T.e (z0 (zl (AV.b (decide (0 < so)))) T.e)) (z0 T.e (z0 (zl (AV.sv 3 (TS.n t l) (qF (TS.A t (Int.toNat (Int.ofNat l))) (TS.M t (Int.toNat (Int.ofNat l))) (TS.W t (Int.toNat (Int.ofNat l)))))) T.e)))))) ⟨zl (tsS t), 1, [0]⟩) Orc.z) := by kernel_rfl
theorem a6Z_vc (t : TS) (n i : Nat) (KK L S M : Nat → Int) (K : Res → Orc → Prop) : runK Try.prog 1000000 (.code (loopAt Try.prog 6 1) 100 (mkT [(3, .p 0 0), (15, .sv 4 n (opC KK L S M)), (16, .i .i64 (Int.ofNat n)), (17, .i .i64 (Int.ofNat i)), (65, .i .i64 19)]) (mkH [some (tsS t)])) (Orc.c Orc.z) K = (K (Res.st (XO.exit 3) (z0 (z0 (z1 (AV.p 0 0) (z0 (zl (AV.sv 4 n (opC KK L S M))) T.e) T.e) (z0 (z0 (z1 (AV.i .i64 (Int.ofNat i)) (z0 (zl (AV.i .i64 19)) T.e) T.e) T.e) T.e)) (z0 (z0 (z0 (zl (AV.i .i64 (Int.ofNat n))) T.e) T.e) (z0 (z0 (z0 (z0 (zl (AV.b false)) T.e) T.e) T.e) T.e))) ⟨zl (tsS t), 1, []⟩) Orc.z) := by kernel_rfl
theorem a6A_vc (t : TS) (t1 : TS) (ec : Int) (n i : Nat) (KK L S M : Nat → Int) (h1 : decide (Int.ofNat i < Int.ofNat n) = true) (h2 : decide (300 < Int.ofNat i) = false) (h3 : decide (KK (Int.toNat (Int.ofNat i)) = 1) = false) (h3b : decide (KK (Int.toNat (Int.ofNat i)) = 2) = false) (h4 : (!decide (ec = 0)) = false) (K : Res → Orc → Prop) : runK Try.prog 1000000 (.code (loopAt Try.prog 6 0) 100 (mkT [(3, .p 0 0), (15, .sv 4 n (opC KK L S M)), (16, .i .i64 (Int.ofNat n)), (17, .i .i64 (Int.ofNat i))]) (mkH [some (tsS t)])) (Orc.t (Orc.f (Orc.f (Orc.f (Orc.cal [] (tsV t) [] (Orc.cal [] (AV.tup [tsV t1, AV.i .i64 ec]) [] (Orc.f (Orc.cal [] (tsV t1) [] (Orc.cal [] (AV.b true) [] (Orc.c (Orc.lop [0] [3, 15, 16, 17, 65] 1 (XO.exit 3) [(3, AV.p 0 0), (15, AV.sv 4 n (opC KK L S M)), (16, AV.i .i64 (Int.ofNat n)), (17, AV.i .i64 (Int.ofNat i))] [some (tsS t1)] Orc.z))))))))))) K = (decide
  (Int.ofNat i < Int.ofNat n) = true ∧ (0 ≤ Int.ofNat i ∧ Int.ofNat i < ↑n) ∧ True ∧ decide (300 < Int.ofNat i) = false ∧ True ∧ True ∧ decide (KK i = 1) = false ∧ decide (KK i = 2) = false ∧ True ∧ Con Try.prog 15 [tsV t] [] (tsV t) [] ∧ True ∧ True ∧ True ∧ Con Try.prog 10 [tsV t, AV.i .i64 (L i), AV.i .i64 (S i), AV.i .i64 (M i)] [] (AV.tup [tsV t1, AV.i .i64 ec]) [] ∧ (!decide (ec = 0)) = false ∧ True ∧ True ∧ Con Try.prog 15 [tsV t1] [] (tsV t1) [] ∧ Con Try.prog 13 [tsV t1] [] (AV.b true) [] ∧ True ∧ LDoes Try.prog (loopAt Try.prog 6 1) 100 1 (mkT [(3, AV.p 0 0), (15, AV.sv 4 n (opC KK L S M)), (16, AV.i .i64 (Int.ofNat n)), (17, AV.i .i64 (Int.ofNat i)), (65, AV.i .i64 0)]) [some (tsW t1)] (XO.exit 3) (mkT [(3, AV.p 0 0), (15, AV.sv 4 n (opC KK L S M)), (16, AV.i .i64 (Int.ofNat n)), (17, AV.i .i64 (Int.ofNat i))]) [some (tsS t1)] ∧ ((-9223372036854775808) ≤ Int.ofNat i + 1 ∧
  Int.ofNat i + (1 : Int) ≤ (9223372036854775807 : Int)) ∧ K (Res.st XO.nrm (z0 (z0 (z1 (AV.p 0 0) (z0 (zl (AV.sv 4 n (opC KK L S M))) T.e) (z0 (z0 (z0 T.e (zl (AV.i .i64 (Int.ofNat i + 1)))) T.e) T.e)) (z0 (z0 (zl (AV.i .i64 (Int.ofNat i + 1))) T.e) T.e)) (z0 (z0 (z0 (zl (AV.i .i64 (Int.ofNat n))) T.e) T.e) T.e)) ⟨z1 (tsS t1) (zl (AObj.cells 47 4 [AV.i .i64 0, AV.i .i64 0, AV.i .i64 0, AV.i .i64 0] (z1 (AV.i .i64 (KK i)) (z1 (AV.i .i64 (L i)) (zl (AV.i .i64 (M i))) T.e) (zl (AV.i .i64 (S i)))))) (zl (tsZ t1)), 3, [0, 0, 2, 2, 2, 1, 1]⟩) Orc.z) := by kernel_rfl
theorem a6B_vc (t : TS) (t1 : TS) (ec : Int) (n i : Nat) (KK L S M : Nat → Int) (h1 : decide (Int.ofNat i < Int.ofNat n) = true) (h2 : decide (300 < Int.ofNat i) = false) (h3 : decide (KK (Int.toNat (Int.ofNat i)) = 1) = false) (h3b : decide (KK (Int.toNat (Int.ofNat i)) = 2) = false) (h4 : (!decide (ec = 0)) = true) (K : Res → Orc → Prop) : runK Try.prog 1000000 (.code (loopAt Try.prog 6 0) 100 (mkT [(3, .p 0 0), (15, .sv 4 n (opC KK L S M)), (16, .i .i64 (Int.ofNat n)), (17, .i .i64 (Int.ofNat i))]) (mkH [some (tsS t)])) (Orc.t (Orc.f (Orc.f (Orc.f (Orc.cal [] (tsV t) [] (Orc.cal [] (AV.tup [tsV t1, AV.i .i64 ec]) [] (Orc.t Orc.z))))))) K = (decide (Int.ofNat i < Int.ofNat n) = true ∧ (0 ≤ Int.ofNat i ∧ Int.ofNat i < ↑n) ∧ True ∧ decide (300 < Int.ofNat i) = false ∧ True ∧ True ∧ decide (KK i = 1) = false ∧ decide (KK i = 2) = false ∧ True ∧ Con Try.prog 15 [tsV t] [] (tsV t) [] ∧ True
  ∧ True ∧ True ∧ Con Try.prog 10 [tsV t, AV.i .i64 (L i), AV.i .i64 (S i), AV.i .i64 (M i)] [] (AV.tup [tsV t1, AV.i .i64 ec]) [] ∧ (!decide (ec = 0)) = true ∧ ((-9223372036854775808) ≤ Int.ofNat i + 1 ∧ Int.ofNat i + (1 : Int) ≤ (9223372036854775807 : Int)) ∧ K (Res.st XO.nrm (z0 (z0 (z1 (AV.p 0 0) (z1 (AV.i .i64 ec) (z1 (AV.sv 4 n (opC KK L S M)) (zl (AV.i .i64 (L i))) T.e) (z1 (AV.b (decide (300 < Int.ofNat i))) (zl (AV.b (decide (KK i = 1)))) T.e)) (z0 (z1 (AV.i .i64 (Int.ofNat i)) (z1 (AV.i .i64 (M i)) T.e (zl (AV.i .i64 (Int.ofNat i + 1)))) (zl (AV.b (decide (KK i = 2))))) (z1 (AV.tup [tsV t1, AV.i .i64 ec]) T.e (zl (AV.b !decide (ec = 0)))))) (z1 (AV.p 1 0) (z0 (z1 (AV.i .i64 (Int.ofNat i + 1)) (zl (AV.i .i64 (S i))) T.e) (zl (AV.p 1 0))) (z0 (z1 (AV.agg [AV.i .i64 (KK i), AV.i .i64 (L i), AV.i .i64 (S i), AV.i .i64 (M i)]) (zl (tsV t1)) T.e) (zl (tsV t))))) (z0 (z1 (AV.i .i64
  (Int.ofNat i)) (z0 (z1 (AV.i .i64 (Int.ofNat n)) (zl (AV.p 1 2)) T.e) (z1 (tsV t) (zl (AV.b (decide (KK i = 1)))) T.e)) (z0 (z1 (AV.pv 4 (opC KK L S M i)) (zl (AV.tup [tsV t1, AV.i .i64 ec])) (zl (AV.b (decide (KK i = 2))))) (zl (tsV t)))) (z1 (AV.p 2 0) (z0 (z1 (AV.b (decide (Int.ofNat i < Int.ofNat n))) (zl (AV.p 1 3)) T.e) (z1 (AV.i .i64 (KK i)) T.e (zl (AV.i .i64 ec)))) (z0 (z1 (AV.i .i64 (Int.ofNat i)) (zl (AV.i .i64 ec)) T.e) (zl (AV.p 1 1)))))) ⟨z1 (tsS t) (zl (AObj.cells 47 4 [AV.i .i64 0, AV.i .i64 0, AV.i .i64 0, AV.i .i64 0] (z1 (AV.i .i64 (KK i)) (z1 (AV.i .i64 (L i)) (zl (AV.i .i64 (M i))) T.e) (zl (AV.i .i64 (S i)))))) (zl (tsZ t1)), 3, [2, 2, 2, 1, 1]⟩) Orc.z) := by kernel_rfl
theorem a6C_vc (t : TS) (t1 : TS) (ec : Int) (n i : Nat) (KK L S M : Nat → Int) (h1 : decide (Int.ofNat i < Int.ofNat n) = true) (h2 : decide (300 < Int.ofNat i) = false) (h3 : decide (KK (Int.toNat (Int.ofNat i)) = 1) = true) (h4 : (!decide (ec = 0)) = false) (K : Res → Orc → Prop) : runK Try.prog 1000000 (.code (loopAt Try.prog 6 0) 100 (mkT [(3, .p 0 0), (15, .sv 4 n (opC KK L S M)), (16, .i .i64 (Int.ofNat n)), (17, .i .i64 (Int.ofNat i))]) (mkH [some (tsS t)])) (Orc.t (Orc.f (Orc.t (Orc.cal [] (tsV t) [] (Orc.cal [] (AV.tup [tsV t1, AV.i .i64 ec]) [] (Orc.f (Orc.cal [] (tsV t1) [] (Orc.cal [] (AV.b true) [] (Orc.c (Orc.lop [0] [3, 15, 16, 17, 65] 1 (XO.exit 3) [(3, AV.p 0 0), (15, AV.sv 4 n (opC KK L S M)), (16, AV.i .i64 (Int.ofNat n)), (17, AV.i .i64 (Int.ofNat i))] [some (tsS t1)] Orc.z)))))))))) K = (decide (Int.ofNat i < Int.ofNat n) = true ∧ (0 ≤ Int.ofNat i ∧ Int.ofNat i <
  ↑n) ∧ True ∧ decide (300 < Int.ofNat i) = false ∧ True ∧ True ∧ decide (KK i = 1) = true ∧ True ∧ Con Try.prog 15 [tsV t] [] (tsV t) [] ∧ True ∧ True ∧ Con Try.prog 11 [tsV t, AV.i .i64 (L i), AV.i .i64 (S i)] [] (AV.tup [tsV t1, AV.i .i64 ec]) [] ∧ (!decide (ec = 0)) = false ∧ True ∧ True ∧ Con Try.prog 15 [tsV t1] [] (tsV t1) [] ∧ Con Try.prog 13 [tsV t1] [] (AV.b true) [] ∧ True ∧ LDoes Try.prog (loopAt Try.prog 6 1) 100 1 (mkT [(3, AV.p 0 0), (15, AV.sv 4 n (opC KK L S M)), (16, AV.i .i64 (Int.ofNat n)), (17, AV.i .i64 (Int.ofNat i)), (65, AV.i .i64 0)]) [some (tsW t1)] (XO.exit 3) (mkT [(3, AV.p 0 0), (15, AV.sv 4 n (opC KK L S M)), (16, AV.i .i64 (Int.ofNat n)), (17, AV.i .i64 (Int.ofNat i))]) [some (tsS t1)] ∧ ((-9223372036854775808) ≤ Int.ofNat i + 1 ∧ Int.ofNat i + (1 : Int) ≤ (9223372036854775807 : Int)) ∧ K (Res.st XO.nrm (z0 (z0 (z1 (AV.p 0 0) (z0 (zl (AV.sv 4 n (opC KK L S
  M))) T.e) (z0 (z0 (z0 T.e (zl (AV.i .i64 (Int.ofNat i + 1)))) T.e) T.e)) (z0 (z0 (zl (AV.i .i64 (Int.ofNat i + 1))) T.e) T.e)) (z0 (z0 (z0 (zl (AV.i .i64 (Int.ofNat n))) T.e) T.e) T.e)) ⟨z1 (tsS t1) (zl (AObj.cells 47 4 [AV.i .i64 0, AV.i .i64 0, AV.i .i64 0, AV.i .i64 0] (z1 (AV.i .i64 (KK i)) (z1 (AV.i .i64 (L i)) (zl (AV.i .i64 (M i))) T.e) (zl (AV.i .i64 (S i)))))) (zl (tsZ t1)), 3, [0, 0, 2, 2, 2, 1, 1]⟩) Orc.z) := by kernel_rfl
theorem a6D_vc (t : TS) (t1 : TS) (ec : Int) (n i : Nat) (KK L S M : Nat → Int) (h1 : decide (Int.ofNat i < Int.ofNat n) = true) (h2 : decide (300 < Int.ofNat i) = false) (h3 : decide (KK (Int.toNat (Int.ofNat i)) = 1) = true) (h4 : (!decide (ec = 0)) = true) (K : Res → Orc → Prop) : runK Try.prog 1000000 (.code (loopAt Try.prog 6 0) 100 (mkT [(3, .p 0 0), (15, .sv 4 n (opC KK L S M)), (16, .i .i64 (Int.ofNat n)), (17, .i .i64 (Int.ofNat i))]) (mkH [some (tsS t)])) (Orc.t (Orc.f (Orc.t (Orc.cal [] (tsV t) [] (Orc.cal [] (AV.tup [tsV t1, AV.i .i64 ec]) [] (Orc.t Orc.z)))))) K = (decide (Int.ofNat i < Int.ofNat n) = true ∧ (0 ≤ Int.ofNat i ∧ Int.ofNat i < ↑n) ∧ True ∧ decide (300 < Int.ofNat i) = false ∧ True ∧ True ∧ decide (KK i = 1) = true ∧ True ∧ Con Try.prog 15 [tsV t] [] (tsV t) [] ∧ True ∧ True ∧ Con Try.prog 11 [tsV t, AV.i .i64 (L i), AV.i .i64 (S i)] [] (AV.tup [tsV t1, AV.i
  .i64 ec]) [] ∧ (!decide (ec = 0)) = true ∧ ((-9223372036854775808) ≤ Int.ofNat i + 1 ∧ Int.ofNat i + (1 : Int) ≤ (9223372036854775807 : Int)) ∧ K (Res.st XO.nrm (z0 (z0 (z1 (AV.p 0 0) (z1 (AV.i .i64 ec) (z1 (AV.sv 4 n (opC KK L S M)) T.e (zl (AV.i .i64 (S i)))) (z1 (AV.b (decide (300 < Int.ofNat i))) (zl (AV.b (decide (KK i = 1)))) T.e)) (z0 (z1 (AV.i .i64 (Int.ofNat i)) (z0 T.e (zl (AV.i .i64 (Int.ofNat i + 1)))) T.e) (z0 (zl (tsV t)) (zl (AV.b !decide (ec = 0)))))) (z1 (AV.p 1 0) (z0 (z1 (AV.i .i64 (Int.ofNat i + 1)) T.e (zl (tsV t1))) (z1 (AV.p 1 0) (zl (AV.tup [tsV t1, AV.i .i64 ec])) T.e)) (z0 (zl (AV.agg [AV.i .i64 (KK i), AV.i .i64 (L i), AV.i .i64 (S i), AV.i .i64 (M i)])) (z0 (zl (AV.i .i64 (L i))) T.e)))) (z0 (z1 (AV.i .i64 (Int.ofNat i)) (z0 (z1 (AV.i .i64 (Int.ofNat n)) T.e (zl (AV.tup [tsV t1, AV.i .i64 ec]))) (z1 (tsV t) (zl (AV.b (decide (KK i = 1)))) T.e)) (z0 (zl (AV.pv
  4 (opC KK L S M i))) (z0 (zl (AV.p 1 1)) T.e))) (z1 (AV.p 2 0) (z0 (z1 (AV.b (decide (Int.ofNat i < Int.ofNat n))) T.e (zl (AV.i .i64 ec))) (z1 (AV.i .i64 (KK i)) (zl (tsV t)) (zl (AV.i .i64 ec)))) (z0 (zl (AV.i .i64 (Int.ofNat i))) (z0 (zl (AV.p 1 2)) T.e))))) ⟨z1 (tsS t) (zl (AObj.cells 47 4 [AV.i .i64 0, AV.i .i64 0, AV.i .i64 0, AV.i .i64 0] (z1 (AV.i .i64 (KK i)) (z1 (AV.i .i64 (L i)) (zl (AV.i .i64 (M i))) T.e) (zl (AV.i .i64 (S i)))))) (zl (tsZ t1)), 3, [2, 2, 2, 1, 1]⟩) Orc.z) := by kernel_rfl
theorem a6E_vc (t : TS) (t1 : TS) (n i : Nat) (KK L S M : Nat → Int) (h1 : decide (Int.ofNat i < Int.ofNat n) = true) (h2 : decide (300 < Int.ofNat i) = false) (h3 : decide (KK (Int.toNat (Int.ofNat i)) = 1) = false) (h3b : decide (KK (Int.toNat (Int.ofNat i)) = 2) = true) (K : Res → Orc → Prop) : runK Try.prog 1000000 (.code (loopAt Try.prog 6 0) 100 (mkT [(3, .p 0 0), (15, .sv 4 n (opC KK L S M)), (16, .i .i64 (Int.ofNat n)), (17, .i .i64 (Int.ofNat i))]) (mkH [some (tsS t)])) (Orc.t (Orc.f (Orc.f (Orc.t (Orc.cal [] (tsV t) [] (Orc.cal [] (tsV t1) [] (Orc.c (Orc.cal [] (tsV t1) [] (Orc.cal [] (AV.b true) [] (Orc.c (Orc.lop [0] [3, 15, 16, 17, 65] 1 (XO.exit 3) [(3, AV.p 0 0), (15, AV.sv 4 n (opC KK L S M)), (16, AV.i .i64 (Int.ofNat n)), (17, AV.i .i64 (Int.ofNat i))] [some (tsS t1)] Orc.z))))))))))) K = (decide (Int.ofNat i < Int.ofNat n) = true ∧ (0 ≤ Int.ofNat i ∧ Int.ofNat i < ↑n)
  ∧ True ∧ decide (300 < Int.ofNat i) = false ∧ True ∧ True ∧ decide (KK i = 1) = false ∧ decide (KK i = 2) = true ∧ True ∧ Con Try.prog 15 [tsV t] [] (tsV t) [] ∧ True ∧ Con Try.prog 19 [tsV t, AV.i .i64 (S i)] [] (tsV t1) [] ∧ True ∧ True ∧ Con Try.prog 15 [tsV t1] [] (tsV t1) [] ∧ Con Try.prog 13 [tsV t1] [] (AV.b true) [] ∧ True ∧ LDoes Try.prog (loopAt Try.prog 6 1) 100 1 (mkT [(3, AV.p 0 0), (15, AV.sv 4 n (opC KK L S M)), (16, AV.i .i64 (Int.ofNat n)), (17, AV.i .i64 (Int.ofNat i)), (65, AV.i .i64 0)]) [some (tsW t1)] (XO.exit 3) (mkT [(3, AV.p 0 0), (15, AV.sv 4 n (opC KK L S M)), (16, AV.i .i64 (Int.ofNat n)), (17, AV.i .i64 (Int.ofNat i))]) [some (tsS t1)] ∧ ((-9223372036854775808) ≤ Int.ofNat i + 1 ∧ Int.ofNat i + (1 : Int) ≤ (9223372036854775807 : Int)) ∧ K (Res.st XO.nrm (z0 (z0 (z1 (AV.p 0 0) (z0 (zl (AV.sv 4 n (opC KK L S M))) T.e) (z0 (z0 (z0 T.e (zl (AV.i .i64 (Int.ofNat
  i + 1)))) T.e) T.e)) (z0 (z0 (zl (AV.i .i64 (Int.ofNat i + 1))) T.e) T.e)) (z0 (z0 (z0 (zl (AV.i .i64 (Int.ofNat n))) T.e) T.e) T.e)) ⟨z1 (tsS t1) (zl (AObj.cells 47 4 [AV.i .i64 0, AV.i .i64 0, AV.i .i64 0, AV.i .i64 0] (z1 (AV.i .i64 (KK i)) (z1 (AV.i .i64 (L i)) (zl (AV.i .i64 (M i))) T.e) (zl (AV.i .i64 (S i)))))) (zl (tsZ t1)), 3, [0, 0, 2, 2, 2, 1, 1]⟩) Orc.z) := by kernel_rfl
theorem a6X_vc (t : TS) (n i : Nat) (KK L S M : Nat → Int) (h1 : decide (Int.ofNat i < Int.ofNat n) = true) (h2 : decide (300 < Int.ofNat i) = true) (K : Res → Orc → Prop) : runK Try.prog 1000000 (.code (loopAt Try.prog 6 0) 100 (mkT [(3, .p 0 0), (15, .sv 4 n (opC KK L S M)), (16, .i .i64 (Int.ofNat n)), (17, .i .i64 (Int.ofNat i))]) (mkH [some (tsS t)])) (Orc.t (Orc.t Orc.z)) K = (decide (Int.ofNat i < Int.ofNat n) = true ∧ (0 ≤ Int.ofNat i ∧ Int.ofNat i < ↑n) ∧ True ∧ decide (300 < Int.ofNat i) = true ∧ K (Res.st (XO.exit 0) (z0 (z0 (z1 (AV.p 0 0) (z0 (zl (AV.sv 4 n (opC KK L S M))) (zl (AV.b (decide (300 < Int.ofNat i))))) (z0 (zl (AV.i .i64 (Int.ofNat i))) T.e)) (z1 (AV.p 1 0) (z0 (zl (AV.i .i64 (Int.ofNat i))) T.e) (z0 (zl (AV.agg [AV.i .i64 (KK i), AV.i .i64 (L i), AV.i .i64 (S i), AV.i .i64 (M i)])) T.e))) (z0 (z1 (AV.i .i64 (Int.ofNat i)) (z0 (zl (AV.i .i64 (Int.ofNat n))) T.e)
  (z0 (zl (AV.pv 4 (opC KK L S M i))) T.e)) (z0 (z0 (zl (AV.b (decide (Int.ofNat i < Int.ofNat n)))) T.e) (z0 (zl (AV.i .i64 (Int.ofNat i))) T.e)))) ⟨z1 (tsS t) (zl (AObj.cells 47 4 [AV.i .i64 0, AV.i .i64 0, AV.i .i64 0, AV.i .i64 0] (z1 (AV.i .i64 (KK i)) (z1 (AV.i .i64 (L i)) (zl (AV.i .i64 (M i))) T.e) (zl (AV.i .i64 (S i)))))) T.e, 2, [1, 1]⟩) Orc.z) := by kernel_rfl
theorem a6Y_vc (t : TS) (n i : Nat) (KK L S M : Nat → Int) (h1 : decide (Int.ofNat i < Int.ofNat n) = false) (K : Res → Orc → Prop) : runK Try.prog 1000000 (.code (loopAt Try.prog 6 0) 100 (mkT [(3, .p 0 0), (15, .sv 4 n (opC KK L S M)), (16, .i .i64 (Int.ofNat n)), (17, .i .i64 (Int.ofNat i))]) (mkH [some (tsS t)])) (Orc.f Orc.z) K = (decide (Int.ofNat i < Int.ofNat n) = false ∧ K (Res.st (XO.exit 0) (z0 (z0 (z1 (AV.p 0 0) (z0 (zl (AV.sv 4 n (opC KK L S M))) T.e) T.e) (z0 (z0 (zl (AV.i .i64 (Int.ofNat i))) T.e) T.e)) (z0 (z0 (z0 (zl (AV.i .i64 (Int.ofNat n))) T.e) T.e) (z0 (z0 (zl (AV.b (decide (Int.ofNat i < Int.ofNat n)))) T.e) T.e))) ⟨zl (tsS t), 1, []⟩) Orc.z) := by kernel_rfl
theorem a6M_vc (t : TS) (n : Nat) (KK L S M : Nat → Int) (V : AV) : runK Try.prog 1000000 (.call 6 [.sv 4 n (opC KK L S M)] (mkH [])) (Orc.cal [] (AV.b true) [] (Orc.c (Orc.lop [0] [3, 15, 16, 17] 1 (XO.exit 0) [] [some (tsS t)] Orc.z))) (fun r _ => rvIs V r) = (Con Try.prog 12 [] [] (AV.b true) [] ∧ True ∧ LDoes Try.prog (loopAt Try.prog 6 0) 100 1 (mkT [(3, AV.p 0 0), (15, AV.sv 4 n (opC KK L S M)), (16, AV.i .i64 (Int.ofNat n)), (17, AV.i .i64 0)]) [some tzO] (XO.exit 0) (mkT []) [some (tsS t)] ∧ (AV.b true) = V) := by kernel_rfl
def sl (x : Int) : Int := if x = 2 then 1 else 0
def nf (x : Int) : Int := if x = 0 then 0 else 1
def cS (f : Int → Int) (a b c : Int) : Nat → Int
  | 0 => 0
  | 1 => f a
  | 2 => f a + f b
  | _ => f a + f b + f c
theorem in6_lp (t : TS) (n i l : Nat) (KK L S M : Nat → Int) (a b c : Int) : LDoes Try.prog (loopAt Try.prog 6 2) 100 1 (mkT [(3, .p 0 0), (8, .i .i64 (Int.ofNat l)), (15, .sv 4 n (opC KK L S M)), (16, .i .i64 (Int.ofNat n)), (17, .i .i64 (Int.ofNat i)), (65, .i .i64 (Int.ofNat l)), (9, .i .i64 0), (10, .i .i64 0), (71, .agg [.i .i64 a, .i .i64 b, .i .i64 c]), (72, .i .i64 0)]) [some (tsS t)] (.exit 5) (mkT [(3, .p 0 0), (8, .i .i64 (Int.ofNat l)), (15, .sv 4 n (opC KK L S M)), (16, .i .i64 (Int.ofNat n)), (17, .i .i64 (Int.ofNat i)), (65, .i .i64 (Int.ofNat l)), (9, .i .i64 (cS sl a b c 3)), (10, .i .i64 (cS nf a b c 3))]) [some (tsS t)] := by
  refine loop_ind (fun d : Nat => ([(3, .p 0 0), (8, .i .i64 (Int.ofNat l)), (15, .sv 4 n (opC KK L S M)), (16, .i .i64 (Int.ofNat n)), (17, .i .i64 (Int.ofNat i)), (65, .i .i64 (Int.ofNat l)), (9, .i .i64 (cS sl a b c d)), (10, .i .i64 (cS nf a b c d)), (71, .agg [.i .i64 a, .i .i64 b, .i .i64 c]), (72, .i .i64 (Int.ofNat d))], [some (tsS t)])) (fun d => 3 - d) (fun d => d ≤ 3) ?_ 0 (by decide)
  intro d hd
  refine ⟨Nat.le_refl _, ?_⟩
  match d, hd with
  | 0, _ =>
    have bs : 0 ≤ cS sl a b c 0 ∧ cS sl a b c 0 ≤ 3 ∧ 0 ≤ cS nf a b c 0 ∧ cS nf a b c 0 ≤ 3 := by simp [cS]
    by_cases c2 : a = 2
    · have c0 : a ≠ 0 := by omega
      have h1 : decide (a = 2) = true := by simpa using c2
      have h2 : (!decide (a = 0)) = true := by simpa using c0
      refine ⟨_, _, (a6s02_vc t n i l KK L S M a b c _ _ h1 h2 _).mpr ⟨h1, ⟨by omega, by omega⟩, h2, ⟨by omega, by omega⟩, ⟨by decide, by decide⟩, .inl ⟨1, [0], [], _, _, by omega, by show 3 - (0 + 1) < 3 - 0; omega, rfl, ?_⟩⟩⟩
      dsimp only
      rw [show cS sl a b c 1 = cS sl a b c 0 + 1 from by simp [cS, sl, c2, c0], show cS nf a b c 1 = cS nf a b c 0 + 1 from by simp [cS, nf, c2, c0]]
      exact st_k [0] (by kernel_rfl)
    · have h1 : decide (a = 2) = false := by simpa using c2
      by_cases c0 : a = 0
      · have h2 : (!decide (a = 0)) = false := by simpa using c0
        refine ⟨_, _, (a6s00_vc t n i l KK L S M a b c _ _ h1 h2 _).mpr ⟨h1, h2, ⟨by decide, by decide⟩, .inl ⟨1, [0], [], _, _, by omega, by show 3 - (0 + 1) < 3 - 0; omega, rfl, ?_⟩⟩⟩
        dsimp only
        rw [show cS sl a b c 1 = cS sl a b c 0 from by simp [cS, sl, c2, c0], show cS nf a b c 1 = cS nf a b c 0 from by simp [cS, nf, c2, c0]]
        exact st_k [0] (by kernel_rfl)
      · have h2 : (!decide (a = 0)) = true := by simpa using c0
        refine ⟨_, _, (a6s01_vc t n i l KK L S M a b c _ _ h1 h2 _).mpr ⟨h1, h2, ⟨by omega, by omega⟩, ⟨by decide, by decide⟩, .inl ⟨1, [0], [], _, _, by omega, by show 3 - (0 + 1) < 3 - 0; omega, rfl, ?_⟩⟩⟩
        dsimp only
        rw [show cS sl a b c 1 = cS sl a b c 0 from by simp [cS, sl, c2, c0], show cS nf a b c 1 = cS nf a b c 0 + 1 from by simp [cS, nf, c2, c0]]
        exact st_k [0] (by kernel_rfl)
  | 1, _ =>
    have bs : 0 ≤ cS sl a b c 1 ∧ cS sl a b c 1 ≤ 3 ∧ 0 ≤ cS nf a b c 1 ∧ cS nf a b c 1 ≤ 3 := by
      simp only [cS, sl, nf]; repeat' split <;> omega
    by_cases c2 : b = 2
    · have c0 : b ≠ 0 := by omega
      have h1 : decide (b = 2) = true := by simpa using c2
      have h2 : (!decide (b = 0)) = true := by simpa using c0
      refine ⟨_, _, (a6s12_vc t n i l KK L S M a b c _ _ h1 h2 _).mpr ⟨h1, ⟨by omega, by omega⟩, h2, ⟨by omega, by omega⟩, ⟨by decide, by decide⟩, .inl ⟨2, [0], [], _, _, by omega, by show 3 - (1 + 1) < 3 - 1; omega, rfl, ?_⟩⟩⟩
      dsimp only
      rw [show cS sl a b c 2 = cS sl a b c 1 + 1 from by simp [cS, sl, c2, c0], show cS nf a b c 2 = cS nf a b c 1 + 1 from by simp [cS, nf, c2, c0]]
      exact st_k [0] (by kernel_rfl)
    · have h1 : decide (b = 2) = false := by simpa using c2
      by_cases c0 : b = 0
      · have h2 : (!decide (b = 0)) = false := by simpa using c0
        refine ⟨_, _, (a6s10_vc t n i l KK L S M a b c _ _ h1 h2 _).mpr ⟨h1, h2, ⟨by decide, by decide⟩, .inl ⟨2, [0], [], _, _, by omega, by show 3 - (1 + 1) < 3 - 1; omega, rfl, ?_⟩⟩⟩
        dsimp only
        rw [show cS sl a b c 2 = cS sl a b c 1 from by simp [cS, sl, c2, c0], show cS nf a b c 2 = cS nf a b c 1 from by simp [cS, nf, c2, c0]]
        exact st_k [0] (by kernel_rfl)
      · have h2 : (!decide (b = 0)) = true := by simpa using c0
        refine ⟨_, _, (a6s11_vc t n i l KK L S M a b c _ _ h1 h2 _).mpr ⟨h1, h2, ⟨by omega, by omega⟩, ⟨by decide, by decide⟩, .inl ⟨2, [0], [], _, _, by omega, by show 3 - (1 + 1) < 3 - 1; omega, rfl, ?_⟩⟩⟩
        dsimp only
        rw [show cS sl a b c 2 = cS sl a b c 1 from by simp [cS, sl, c2, c0], show cS nf a b c 2 = cS nf a b c 1 + 1 from by simp [cS, nf, c2, c0]]
        exact st_k [0] (by kernel_rfl)
  | 2, _ =>
    have bs : 0 ≤ cS sl a b c 2 ∧ cS sl a b c 2 ≤ 3 ∧ 0 ≤ cS nf a b c 2 ∧ cS nf a b c 2 ≤ 3 := by
      simp only [cS, sl, nf]; repeat' split <;> omega
    by_cases c2 : c = 2
    · have c0 : c ≠ 0 := by omega
      have h1 : decide (c = 2) = true := by simpa using c2
      have h2 : (!decide (c = 0)) = true := by simpa using c0
      refine ⟨_, _, (a6s22_vc t n i l KK L S M a b c _ _ h1 h2 _).mpr ⟨h1, ⟨by omega, by omega⟩, h2, ⟨by omega, by omega⟩, ⟨by decide, by decide⟩, .inl ⟨3, [0], [], _, _, by omega, by show 3 - (2 + 1) < 3 - 2; omega, rfl, ?_⟩⟩⟩
      dsimp only
      rw [show cS sl a b c 3 = cS sl a b c 2 + 1 from by simp [cS, sl, c2, c0], show cS nf a b c 3 = cS nf a b c 2 + 1 from by simp [cS, nf, c2, c0]]
      exact st_k [0] (by kernel_rfl)
    · have h1 : decide (c = 2) = false := by simpa using c2
      by_cases c0 : c = 0
      · have h2 : (!decide (c = 0)) = false := by simpa using c0
        refine ⟨_, _, (a6s20_vc t n i l KK L S M a b c _ _ h1 h2 _).mpr ⟨h1, h2, ⟨by decide, by decide⟩, .inl ⟨3, [0], [], _, _, by omega, by show 3 - (2 + 1) < 3 - 2; omega, rfl, ?_⟩⟩⟩
        dsimp only
        rw [show cS sl a b c 3 = cS sl a b c 2 from by simp [cS, sl, c2, c0], show cS nf a b c 3 = cS nf a b c 2 from by simp [cS, nf, c2, c0]]
        exact st_k [0] (by kernel_rfl)
      · have h2 : (!decide (c = 0)) = true := by simpa using c0
        refine ⟨_, _, (a6s21_vc t n i l KK L S M a b c _ _ h1 h2 _).mpr ⟨h1, h2, ⟨by omega, by omega⟩, ⟨by decide, by decide⟩, .inl ⟨3, [0], [], _, _, by omega, by show 3 - (2 + 1) < 3 - 2; omega, rfl, ?_⟩⟩⟩
        dsimp only
        rw [show cS sl a b c 3 = cS sl a b c 2 from by simp [cS, sl, c2, c0], show cS nf a b c 3 = cS nf a b c 2 + 1 from by simp [cS, nf, c2, c0]]
        exact st_k [0] (by kernel_rfl)
  | 3, _ => exact ⟨_, _, (a6e_vc t n i l KK L S M a b c _ _ _).mpr (.inr ⟨[0], [], _, _, rfl, by simp, st_k [0] (by kernel_rfl)⟩)⟩
structure Apt (s : LS) : Prop where
  alone : ∀ l, l < 19 → 0 < cS sl ((s.row l).h 0) ((s.row l).h 1) ((s.row l).h 2) 3 → cS nf ((s.row l).h 0) ((s.row l).h 1) ((s.row l).h 2) 3 ≤ 1
  few : ∀ l, l < 19 → (s.row l).q.length ≤ 3
theorem apt {s : LS} (v : vaS s = true) : Apt s where
  alone := fun l hl => by
    have hm := (mayB_ok (va_row v hl)).hm
    rw [hm3_eq] at hm
    generalize (s.row l).h 0 = a at hm ⊢
    generalize (s.row l).h 1 = b at hm ⊢
    generalize (s.row l).h 2 = c at hm ⊢
    simp only [hm3, isModeB, isWishB, goesB, Bool.and_eq_true, Bool.or_eq_true, decide_eq_true_eq] at hm
    simp only [cS, sl, nf]
    repeat' split
    all_goals omega
  few := fun l hl => (mayB_ok (va_row v hl)).len
theorem lk6_lp (s : LS) (ap : Apt s) (n i : Nat) (KK L S M : Nat → Int) : LDoes Try.prog (loopAt Try.prog 6 1) 100 1 (mkT [(3, .p 0 0), (15, .sv 4 n (opC KK L S M)), (16, .i .i64 (Int.ofNat n)), (17, .i .i64 (Int.ofNat i)), (65, .i .i64 0)]) [some (tsW s.ts)] (.exit 3) (mkT [(3, .p 0 0), (15, .sv 4 n (opC KK L S M)), (16, .i .i64 (Int.ofNat n)), (17, .i .i64 (Int.ofNat i))]) [some (tsS s.ts)] := by
  have key := loop_ind (P := Try.prog) (c := loopAt Try.prog 6 1) (n := 100) (b := 1) (x := .exit 3) (l' := [(3, .p 0 0), (15, .sv 4 n (opC KK L S M)), (16, .i .i64 (Int.ofNat n)), (17, .i .i64 (Int.ofNat i))]) (objs' := [some (tsS s.ts)]) (D := Nat) (fun l : Nat => ([(3, .p 0 0), (15, .sv 4 n (opC KK L S M)), (16, .i .i64 (Int.ofNat n)), (17, .i .i64 (Int.ofNat i)), (65, .i .i64 (Int.ofNat l))], [some (tsS s.ts)])) (fun l => 19 - l) (fun l => l ≤ 19) (fun l hl => ?_) 0 (Nat.zero_le _)
  · exact key.ovl (objs0 := [some (tsW s.ts)]) ⟨tsW_ov _, trivial⟩
  refine ⟨Nat.le_refl _, ?_⟩
  by_cases e : l = 19
  · subst e
    exact ⟨_, _, (a6Z_vc s.ts n i KK L S M _).mpr (.inr ⟨[0], [], _, _, rfl, by simp, st_k [0] (by kernel_rfl)⟩)⟩
  have hlt : l < 19 := by omega
  have h1 : decide (Int.ofNat l < 19) = true := by simp <;> omega
  have hin := in6_lp s.ts n i l KK L S M (s.ts.h l 0) (s.ts.h l 1) (s.ts.h l 2)
  have h4 : decide (3 < Int.ofNat (s.ts.n l)) = false := by
    have : s.ts.n l ≤ 3 := ap.few l hlt
    simp; omega
  have ha : 0 < cS sl (s.ts.h l 0) (s.ts.h l 1) (s.ts.h l 2) 3 → cS nf (s.ts.h l 0) (s.ts.h l 1) (s.ts.h l 2) 3 ≤ 1 := ap.alone l hlt
  generalize cS sl (s.ts.h l 0) (s.ts.h l 1) (s.ts.h l 2) 3 = so at hin ha
  generalize cS nf (s.ts.h l 0) (s.ts.h l 1) (s.ts.h l 2) 3 = an at hin ha
  by_cases c : 0 < so
  · have h2 : decide (0 < so) = true := by simpa using c
    have h3 : decide (1 < an) = false := by have := ha c; simp; omega
    have h3n : (!decide (1 < an)) = true := by rw [h3]; rfl
    exact ⟨_, _, (a6P_vc s.ts so an n i l KK L S M h1 h2 h3 h4 _).mpr ⟨h1, trivial, ⟨by simp <;> omega, by simp <;> omega⟩, by omega, hin, h2, h2, h2, h3n, h3n, trivial, h3n, ⟨by simp <;> omega, by simp <;> omega⟩, h3n, by omega, h3n, h3n, h3, h4, ⟨by simp <;> omega, by simp <;> omega⟩, .inl ⟨l + 1, [0], [], _, _, by omega, by show 19 - (l + 1) < 19 - l; omega, rfl, st_k [0] (by kernel_rfl)⟩⟩⟩
  · have h2 : decide (0 < so) = false := by simpa using c
    exact ⟨_, _, (a6Q_vc s.ts so an n i l KK L S M h1 h2 h4 _).mpr ⟨h1, trivial, ⟨by simp <;> omega, by simp <;> omega⟩, by omega, hin, h2, h2, h2, trivial, ⟨by simp <;> omega, by simp <;> omega⟩, by omega, h4, ⟨by simp <;> omega, by simp <;> omega⟩, .inl ⟨l + 1, [0], [], _, _, by omega, by show 19 - (l + 1) < 19 - l; omega, rfl, st_k [0] (by kernel_rfl)⟩⟩⟩
def stA (s : LS) (kk l k m : Int) : LS := if kk = 1 then (if freeE s l k = 0 then freeS s l k else s) else if kk = 2 then dropS s k else (if askE s l k m = 0 then askS s l k m else s)
def runA (KK L S M : Nat → Int) : Nat → LS
  | 0 => zS
  | i + 1 => stA (runA KK L S M i) (KK i) (L i) (S i) (M i)
theorem runA_s (KK L S M : Nat → Int) (i : Nat) : runA KK L S M (i + 1) = stA (runA KK L S M i) (KK i) (L i) (S i) (M i) := rfl
theorem stA_ok {s : LS} (o : s.ok) (kk l k m : Int) : (stA s kk l k m).ok := by
  unfold stA
  split
  · split
    · exact freeS_ok o _ _
    · exact o
  · split
    · exact dropS_ok o _
    · split
      · exact askS_ok o _ _ _
      · exact o
theorem stA_va {s : LS} (v : vaS s = true) (kk l k m : Int) : vaS (stA s kk l k m) = true := by
  unfold stA
  split
  · split
    · exact freeS_va v _ _
    · exact v
  · split
    · exact dropS_va v _
    · split
      · exact askS_va v _ _ _
      · exact v
theorem runA_ok (KK L S M : Nat → Int) : ∀ i, (runA KK L S M i).ok
  | 0 => zS_ok
  | i + 1 => stA_ok (runA_ok KK L S M i) _ _ _ _
theorem runA_va (KK L S M : Nat → Int) : ∀ i, vaS (runA KK L S M i) = true
  | 0 => zS_va
  | i + 1 => stA_va (runA_va KK L S M i) _ _ _ _
theorem law6_lp (n : Nat) (KK L S M : Nat → Int) (hn : n ≤ 1152921504606846976) : LDoes Try.prog (loopAt Try.prog 6 0) 100 1 (mkT [(3, .p 0 0), (15, .sv 4 n (opC KK L S M)), (16, .i .i64 (Int.ofNat n)), (17, .i .i64 0)]) [some tzO] (.exit 0) (mkT []) [some (tsS (runA KK L S M (min n 301)).ts)] := by
  have key := loop_indV (P := Try.prog) (c := loopAt Try.prog 6 0) (n := 100) (b := 1) (x := .exit 0) (l' := []) (objs' := [some (tsS (runA KK L S M (min n 301)).ts)]) (D := Nat)
    (fun i : Nat => ([(3, .p 0 0), (15, .sv 4 n (opC KK L S M)), (16, .i .i64 (Int.ofNat n)), (17, .i .i64 (Int.ofNat i))], [some (tsS (runA KK L S M i).ts)])) (fun i => n - i) (fun i => i ≤ n ∧ i ≤ 301) (fun i hi => ?_) 0 ⟨Nat.zero_le _, Nat.zero_le _⟩
  · exact key.ovl (objs0 := [some tzO]) ⟨tzO_ov, trivial⟩
  refine ⟨Nat.le_refl _, ?_⟩
  have ok := runA_ok KK L S M i
  have va := runA_va KK L S M i
  have va1 := runA_va KK L S M (i + 1)
  have ok1 := runA_ok KK L S M (i + 1)
  have er := runA_s KK L S M i
  by_cases e1 : i = n
  · have h1 : decide (Int.ofNat i < Int.ofNat n) = false := by simp; omega
    refine ⟨_, _, (a6Y_vc (runA KK L S M i).ts n i KK L S M h1 _).mpr ⟨h1, .inr ⟨[0], [], _, _, _, [some (tsS (runA KK L S M i).ts)], rfl, by simp, st_k [0] (by kernel_rfl), TVL.refl _, ?_⟩⟩⟩
    rw [show min n 301 = i by omega]
    exact OVL.refl _
  have h1 : decide (Int.ofNat i < Int.ofNat n) = true := by simp; omega
  by_cases e2 : i = 301
  · have h2 : decide ((300 : Int) < Int.ofNat i) = true := by simp; omega
    refine ⟨_, _, (a6X_vc (runA KK L S M i).ts n i KK L S M h1 h2 _).mpr ⟨h1, ⟨by simp <;> omega, by simp <;> omega⟩, trivial, h2, .inr ⟨[0], [], _, _, _, [some (tsS (runA KK L S M i).ts)], rfl, by simp, st_k [0] (by kernel_rfl), TVL.refl _, ?_⟩⟩⟩
    rw [show min n 301 = i by omega]
    exact OVL.refl _
  have h2 : decide ((300 : Int) < Int.ofNat i) = false := by simp; omega
  by_cases e3 : KK i = 1
  · have h3 : decide (KK (Int.toNat (Int.ofNat i)) = 1) = true := by simpa using e3
    have hc := free_con (runA KK L S M i) ok (L i) (S i)
    by_cases e4 : (freeE (runA KK L S M i) (L i) (S i)) = 0
    · have h4 : (!decide ((freeE (runA KK L S M i) (L i) (S i)) = 0)) = false := by simpa using e4
      unfold stA at er
      rw [if_pos e3, if_pos e4] at er
      rw [er] at va1 ok1
      have hv1 := valid_con _ ok1
      rw [va1] at hv1
      have hlk := lk6_lp _ (apt va1) n i KK L S M
      refine ⟨_, _, (a6C_vc (runA KK L S M i).ts (freeS (runA KK L S M i) (L i) (S i)).ts (freeE (runA KK L S M i) (L i) (S i)) n i KK L S M h1 h2 h3 h4 _).mpr ⟨h1, ⟨by simp <;> omega, by simp <;> omega⟩, trivial, h2, trivial, trivial, h3, trivial, own_con _ ok, trivial, trivial, hc, h4, trivial, trivial, own_con _ ok1, hv1, trivial, hlk, ⟨by simp <;> omega, by simp <;> omega⟩, .inl ⟨i + 1, [0], [], _, _, _, [some (tsS (freeS (runA KK L S M i) (L i) (S i)).ts)], by omega, by show n - (i + 1) < n - i; omega, rfl, st_k [0] (by kernel_rfl), TVL.refl _, ?_⟩⟩⟩
      dsimp only
      rw [er]
      exact OVL.refl _
    · have h4 : (!decide ((freeE (runA KK L S M i) (L i) (S i)) = 0)) = true := by simpa using e4
      unfold stA at er
      rw [if_pos e3, if_neg e4] at er
      refine ⟨_, _, (a6D_vc (runA KK L S M i).ts (freeS (runA KK L S M i) (L i) (S i)).ts (freeE (runA KK L S M i) (L i) (S i)) n i KK L S M h1 h2 h3 h4 _).mpr ⟨h1, ⟨by simp <;> omega, by simp <;> omega⟩, trivial, h2, trivial, trivial, h3, trivial, own_con _ ok, trivial, trivial, hc, h4, ⟨by simp <;> omega, by simp <;> omega⟩, .inl ⟨i + 1, [0], [], _, _, _, [some (tsS (runA KK L S M i).ts)], by omega, by show n - (i + 1) < n - i; omega, rfl, st_k [0] (by kernel_rfl), TVL.refl _, ?_⟩⟩⟩
      dsimp only
      rw [er]
      exact OVL.refl _
  have h3 : decide (KK (Int.toNat (Int.ofNat i)) = 1) = false := by simpa using e3
  by_cases e3b : KK i = 2
  · have h3b : decide (KK (Int.toNat (Int.ofNat i)) = 2) = true := by simpa using e3b
    have hc := drop_con (runA KK L S M i) ok (S i)
    unfold stA at er
    rw [if_neg e3, if_pos e3b] at er
    rw [er] at va1 ok1
    have hv1 := valid_con _ ok1
    rw [va1] at hv1
    have hlk := lk6_lp _ (apt va1) n i KK L S M
    refine ⟨_, _, (a6E_vc (runA KK L S M i).ts (dropS (runA KK L S M i) (S i)).ts n i KK L S M h1 h2 h3 h3b _).mpr ⟨h1, ⟨by simp <;> omega, by simp <;> omega⟩, trivial, h2, trivial, trivial, h3, h3b, trivial, own_con _ ok, trivial, hc, trivial, trivial, own_con _ ok1, hv1, trivial, hlk, ⟨by simp <;> omega, by simp <;> omega⟩, .inl ⟨i + 1, [0], [], _, _, _, [some (tsS (dropS (runA KK L S M i) (S i)).ts)], by omega, by show n - (i + 1) < n - i; omega, rfl, st_k [0] (by kernel_rfl), TVL.refl _, ?_⟩⟩⟩
    dsimp only
    rw [er]
    exact OVL.refl _
  have h3b : decide (KK (Int.toNat (Int.ofNat i)) = 2) = false := by simpa using e3b
  have hc := ask_con (runA KK L S M i) ok (L i) (S i) (M i)
  by_cases e4 : (askE (runA KK L S M i) (L i) (S i) (M i)) = 0
  · have h4 : (!decide ((askE (runA KK L S M i) (L i) (S i) (M i)) = 0)) = false := by simpa using e4
    unfold stA at er
    rw [if_neg e3, if_neg e3b, if_pos e4] at er
    rw [er] at va1 ok1
    have hv1 := valid_con _ ok1
    rw [va1] at hv1
    have hlk := lk6_lp _ (apt va1) n i KK L S M
    refine ⟨_, _, (a6A_vc (runA KK L S M i).ts (askS (runA KK L S M i) (L i) (S i) (M i)).ts (askE (runA KK L S M i) (L i) (S i) (M i)) n i KK L S M h1 h2 h3 h3b h4 _).mpr ⟨h1, ⟨by simp <;> omega, by simp <;> omega⟩, trivial, h2, trivial, trivial, h3, h3b, trivial, own_con _ ok, trivial, trivial, trivial, hc, h4, trivial, trivial, own_con _ ok1, hv1, trivial, hlk, ⟨by simp <;> omega, by simp <;> omega⟩, .inl ⟨i + 1, [0], [], _, _, _, [some (tsS (askS (runA KK L S M i) (L i) (S i) (M i)).ts)], by omega, by show n - (i + 1) < n - i; omega, rfl, st_k [0] (by kernel_rfl), TVL.refl _, ?_⟩⟩⟩
    dsimp only
    rw [er]
    exact OVL.refl _
  · have h4 : (!decide ((askE (runA KK L S M i) (L i) (S i) (M i)) = 0)) = true := by simpa using e4
    unfold stA at er
    rw [if_neg e3, if_neg e3b, if_neg e4] at er
    refine ⟨_, _, (a6B_vc (runA KK L S M i).ts (askS (runA KK L S M i) (L i) (S i) (M i)).ts (askE (runA KK L S M i) (L i) (S i) (M i)) n i KK L S M h1 h2 h3 h3b h4 _).mpr ⟨h1, ⟨by simp <;> omega, by simp <;> omega⟩, trivial, h2, trivial, trivial, h3, h3b, trivial, own_con _ ok, trivial, trivial, trivial, hc, h4, ⟨by simp <;> omega, by simp <;> omega⟩, .inl ⟨i + 1, [0], [], _, _, _, [some (tsS (runA KK L S M i).ts)], by omega, by show n - (i + 1) < n - i; omega, rfl, st_k [0] (by kernel_rfl), TVL.refl _, ?_⟩⟩⟩
    dsimp only
    rw [er]
    exact OVL.refl _
theorem law6_con (n : Nat) (KK L S M : Nat → Int) (hn : n ≤ 1152921504606846976) : Con Try.prog 6 [.sv 4 n (opC KK L S M)] [] (.b true) [] :=
  con_pureX (a6M_vc (runA KK L S M (min n 301)).ts n KK L S M _) rfl ⟨awake_con, trivial, law6_lp n KK L S M hn, rfl⟩
end Go.Proofs.Lk
