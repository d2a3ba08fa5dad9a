/- Runs over unknown values, told by the kernel: part LrC. -/
import Derived.Test.YtnekjjidcknieaaLrB
set_option linter.unusedSimpArgs false
set_option linter.unusedVariables false
set_option maxRecDepth 20000
namespace Go.Proofs.Lk
open Go Go.Sim Go.Proofs
theorem hldS_len (s : LS) (k : Int) : (hldS s k).length ≤ 19 := by
  unfold hldS
  cases isServerB k && vaS s with
  | true => exact hldN_len s k 19
  | false => simp
theorem wsa_vc (t : TS) (l j : Nat) (h1 : decide (Int.ofNat j < 3) = true) (ha : decide (t.h ((l * 3 + j) / 3) ((l * 3 + j) % 3) < 0) = true) (K : Res → Orc → Prop) : runK Try.prog 1000000 (.code (loopAt Try.prog 23 1) 106 (mkT [(1, .p 0 0), (3, .i .i64 (Int.ofNat l)), (4, .i .i64 (Int.ofNat j))]) (mkH [some (tsF t)])) (Orc.t (Orc.s (Orc.s (Orc.f (Orc.f (Orc.t (oc 8 Orc.z)))) Orc.z) Orc.z)) K = (decide (Int.ofNat j < 3) = true ∧ True ∧ (0 ≤ Int.ofNat l ∧ Int.ofNat l < 19) ∧ (0 ≤ Int.ofNat j ∧ Int.ofNat j < 3) ∧ l * 3 + j < 57 ∧ (!decide (TS.h t ((l * 3 + j) / 3) ((l * 3 + j) % 3) < 0)) = false ∧ (!decide (TS.h t ((l * 3 + j) / 3) ((l * 3 + j) % 3) < 0)) = false ∧ decide (TS.h t ((l * 3 + j) / 3) ((l * 3 + j) % 3) < 0) = true ∧ K (Res.st XO.ret (z0 (z1 (AV.p 0 0) (z1 (AV.i .i64 (Int.ofNat l)) (z0 (z1 (AV.b (decide (Int.ofNat j < 3))) (zl (AV.tup [])) T.e) (zl (AV.i .i64 (TS.h t ((l * 3 +
  j) / 3) ((l * 3 + j) % 3))))) (z0 (z1 (AV.i .i64 (Int.ofNat j)) (zl (AV.tup [])) T.e) (zl (AV.tup [])))) (z1 (AV.i .i64 (TS.h t ((l * 3 + j) / 3) ((l * 3 + j) % 3))) (z0 (z0 (zl (AV.tup [])) T.e) (zl (AV.b (decide (TS.h t ((l * 3 + j) / 3) ((l * 3 + j) % 3) < 0))))) (z0 (z1 (AV.ps 0 44 3 19 l) (zl (AV.b true)) T.e) (zl (AV.b true))))) (z1 (AV.b false) (z1 (AV.i .i64 (Int.ofNat j)) (z0 (z0 (zl (AV.tup [])) T.e) (zl (AV.i .i64 (TS.h t ((l * 3 + j) / 3) ((l * 3 + j) % 3))))) (z0 (z1 (AV.p 0 44) (zl (AV.tup [])) T.e) (zl (AV.tup [])))) (z0 (z0 (z1 (AV.i .i64 (Int.ofNat l)) (zl (AV.tup [])) T.e) (zl (AV.b (decide (TS.h t ((l * 3 + j) / 3) ((l * 3 + j) % 3) < 0))))) (z1 (AV.i .i64 (Int.ofNat j)) (zl (AV.ps 0 44 1 57 (l * 3 + j))) (zl (AV.b true)))))) ⟨zl (tsF t), 1, []⟩) Orc.z) := by kernel_rfl
theorem wsb_vc (t : TS) (l j : Nat) (h1 : decide (Int.ofNat j < 3) = true) (ha : decide (t.h ((l * 3 + j) / 3) ((l * 3 + j) % 3) < 0) = false) (hb : decide (2 < t.h ((l * 3 + j) / 3) ((l * 3 + j) % 3)) = true) (K : Res → Orc → Prop) : runK Try.prog 1000000 (.code (loopAt Try.prog 23 1) 106 (mkT [(1, .p 0 0), (3, .i .i64 (Int.ofNat l)), (4, .i .i64 (Int.ofNat j))]) (mkH [some (tsF t)])) (Orc.t (Orc.s (Orc.s (Orc.t (Orc.t (Orc.f (Orc.f (Orc.f (Orc.f (Orc.f (Orc.f (Orc.f (Orc.t (Orc.c Orc.z))))))))))) Orc.z) Orc.z)) K = (decide (Int.ofNat j < 3) = true ∧ True ∧ (0 ≤ Int.ofNat l ∧ Int.ofNat l < 19) ∧ (0 ≤ Int.ofNat j ∧ Int.ofNat j < 3) ∧ l * 3 + j < 57 ∧ (!decide (TS.h t ((l * 3 + j) / 3) ((l * 3 + j) % 3) < 0)) = true ∧ (!decide (TS.h t ((l * 3 + j) / 3) ((l * 3 + j) % 3) < 0)) = true ∧ decide (TS.h t ((l * 3 + j) / 3) ((l * 3 + j) % 3) < 0) = false ∧ (!decide (2 < TS.h t ((l * 3 + j) / 3)
  ((l * 3 + j) % 3))) = false ∧ (!decide (2 < TS.h t ((l * 3 + j) / 3) ((l * 3 + j) % 3))) = false ∧ (!decide (2 < TS.h t ((l * 3 + j) / 3) ((l * 3 + j) % 3))) = false ∧ (!decide (2 < TS.h t ((l * 3 + j) / 3) ((l * 3 + j) % 3))) = false ∧ (!decide (2 < TS.h t ((l * 3 + j) / 3) ((l * 3 + j) % 3))) = false ∧ (!decide (2 < TS.h t ((l * 3 + j) / 3) ((l * 3 + j) % 3))) = false ∧ decide (2 < TS.h t ((l * 3 + j) / 3) ((l * 3 + j) % 3)) = true ∧ K (Res.st XO.ret (z0 (z1 (AV.p 0 0) (z1 (AV.i .i64 (Int.ofNat l)) (z0 (z1 (AV.b (decide (Int.ofNat j < 3))) (zl (AV.tup [])) T.e) (zl (AV.i .i64 (TS.h t ((l * 3 + j) / 3) ((l * 3 + j) % 3))))) (z0 (z1 (AV.i .i64 (Int.ofNat j)) (zl (AV.tup [])) T.e) (zl (AV.i .i64 (TS.h t ((l * 3 + j) / 3) ((l * 3 + j) % 3)))))) (z1 (AV.i .i64 (TS.h t ((l * 3 + j) / 3) ((l * 3 + j) % 3))) (z0 (z0 (zl (AV.tup [])) T.e) (zl (AV.b (decide (TS.h t ((l * 3 + j) / 3) ((l * 3 +
  j) % 3) < 0))))) (z0 (z1 (AV.ps 0 44 3 19 l) (zl (AV.b true)) T.e) (zl (AV.b (decide (2 < TS.h t ((l * 3 + j) / 3) ((l * 3 + j) % 3)))))))) (z1 (AV.b false) (z1 (AV.i .i64 (Int.ofNat j)) (z0 (z0 (zl (AV.tup [])) T.e) (zl (AV.i .i64 (TS.h t ((l * 3 + j) / 3) ((l * 3 + j) % 3))))) (z0 (z1 (AV.p 0 44) (zl (AV.tup [])) T.e) (zl (AV.b (decide (2 < TS.h t ((l * 3 + j) / 3) ((l * 3 + j) % 3))))))) (z0 (z0 (z1 (AV.i .i64 (Int.ofNat l)) (zl (AV.tup [])) T.e) (zl (AV.b (decide (TS.h t ((l * 3 + j) / 3) ((l * 3 + j) % 3) < 0))))) (z1 (AV.i .i64 (Int.ofNat j)) (zl (AV.ps 0 44 1 57 (l * 3 + j))) (zl (AV.b (decide (2 < TS.h t ((l * 3 + j) / 3) ((l * 3 + j) % 3))))))))) ⟨zl (tsF t), 1, []⟩) Orc.z) := by kernel_rfl
theorem wsc_vc (t : TS) (cn : Int → Int → Bool) (l j : Nat) (h1 : decide (Int.ofNat j < 3) = true) (ha : decide (t.h ((l * 3 + j) / 3) ((l * 3 + j) % 3) < 0) = false) (hb : decide (2 < t.h ((l * 3 + j) / 3) ((l * 3 + j) % 3)) = false) (hc : (!cn (Int.ofNat j) (t.h ((l * 3 + j) / 3) ((l * 3 + j) % 3))) = true) (K : Res → Orc → Prop) : runK Try.prog 1000000 (.code (loopAt Try.prog 23 1) 106 (mkT [(1, .p 0 0), (3, .i .i64 (Int.ofNat l)), (4, .i .i64 (Int.ofNat j))]) (mkH [some (tsF t)])) (Orc.t (Orc.s (Orc.s (Orc.t (Orc.t (Orc.f (Orc.t (Orc.t (Orc.t (Orc.t (Orc.t (Orc.cal [] (AV.b (cn (Int.ofNat j) (TS.h t ((l * 3 + j) / 3) ((l * 3 + j) % 3)))) [] (Orc.t (Orc.f (Orc.t Orc.z)))))))))))) Orc.z) Orc.z)) K = (decide (Int.ofNat j < 3) = true ∧ True ∧ (0 ≤ Int.ofNat l ∧ Int.ofNat l < 19) ∧ (0 ≤ Int.ofNat j ∧ Int.ofNat j < 3) ∧ l * 3 + j < 57 ∧ (!decide (TS.h t ((l * 3 + j) / 3) ((l * 3 + j) % 3)
  < 0)) = true ∧ (!decide (TS.h t ((l * 3 + j) / 3) ((l * 3 + j) % 3) < 0)) = true ∧ decide (TS.h t ((l * 3 + j) / 3) ((l * 3 + j) % 3) < 0) = false ∧ (!decide (2 < TS.h t ((l * 3 + j) / 3) ((l * 3 + j) % 3))) = true ∧ True ∧ (!decide (2 < TS.h t ((l * 3 + j) / 3) ((l * 3 + j) % 3))) = true ∧ (!decide (2 < TS.h t ((l * 3 + j) / 3) ((l * 3 + j) % 3))) = true ∧ (!decide (2 < TS.h t ((l * 3 + j) / 3) ((l * 3 + j) % 3))) = true ∧ (!decide (2 < TS.h t ((l * 3 + j) / 3) ((l * 3 + j) % 3))) = true ∧ Con Try.prog 40 [tsV t, AV.i .i64 (Int.ofNat l), AV.i .i64 (Int.ofNat j), AV.i .i64 (TS.h t ((l * 3 + j) / 3) ((l * 3 + j) % 3))] [] (AV.b (cn (Int.ofNat j) (TS.h t ((l * 3 + j) / 3) ((l * 3 + j) % 3)))) [] ∧ (!decide (2 < TS.h t ((l * 3 + j) / 3) ((l * 3 + j) % 3))) = true ∧ True ∧ decide (2 < TS.h t ((l * 3 + j) / 3) ((l * 3 + j) % 3)) = false ∧ (!cn (Int.ofNat j) (TS.h t ((l * 3 + j) / 3) ((l * 3
  + j) % 3))) = true ∧ K (Res.st XO.ret (z0 (z1 (AV.p 0 0) (z1 (AV.i .i64 (Int.ofNat l)) (z0 (z1 (AV.b (decide (Int.ofNat j < 3))) (zl (tsV t)) T.e) (zl (AV.i .i64 (TS.h t ((l * 3 + j) / 3) ((l * 3 + j) % 3))))) (z0 (z1 (AV.i .i64 (Int.ofNat j)) (zl (AV.b (cn (Int.ofNat j) (TS.h t ((l * 3 + j) / 3) ((l * 3 + j) % 3))))) T.e) (zl (AV.i .i64 (TS.h t ((l * 3 + j) / 3) ((l * 3 + j) % 3)))))) (z1 (AV.i .i64 (TS.h t ((l * 3 + j) / 3) ((l * 3 + j) % 3))) (z0 (z0 (zl (AV.i .i64 (Int.ofNat j))) T.e) (zl (AV.b (decide (TS.h t ((l * 3 + j) / 3) ((l * 3 + j) % 3) < 0))))) (z0 (z1 (AV.ps 0 44 3 19 l) (zl (AV.b !cn (Int.ofNat j) (TS.h t ((l * 3 + j) / 3) ((l * 3 + j) % 3)))) T.e) (zl (AV.b (decide (2 < TS.h t ((l * 3 + j) / 3) ((l * 3 + j) % 3)))))))) (z1 (AV.b false) (z1 (AV.i .i64 (Int.ofNat j)) (z0 (z0 (zl (AV.i .i64 (Int.ofNat l))) T.e) (zl (AV.i .i64 (TS.h t ((l * 3 + j) / 3) ((l * 3 + j) % 3)))))
  (z0 (z1 (AV.p 0 44) (zl (AV.b !cn (Int.ofNat j) (TS.h t ((l * 3 + j) / 3) ((l * 3 + j) % 3)))) T.e) (zl (AV.b (decide (2 < TS.h t ((l * 3 + j) / 3) ((l * 3 + j) % 3))))))) (z0 (z0 (z1 (AV.i .i64 (Int.ofNat l)) (zl (AV.i .i64 (TS.h t ((l * 3 + j) / 3) ((l * 3 + j) % 3)))) T.e) (zl (AV.b (decide (TS.h t ((l * 3 + j) / 3) ((l * 3 + j) % 3) < 0))))) (z1 (AV.i .i64 (Int.ofNat j)) (zl (AV.ps 0 44 1 57 (l * 3 + j))) (zl (AV.b (decide (2 < TS.h t ((l * 3 + j) / 3) ((l * 3 + j) % 3))))))))) ⟨zl (tsF t), 1, []⟩) Orc.z) := by kernel_rfl
theorem wsg_vc (t : TS) (cn : Int → Int → Bool) (l j : Nat) (h1 : decide (Int.ofNat j < 3) = true) (ha : decide (t.h ((l * 3 + j) / 3) ((l * 3 + j) % 3) < 0) = false) (hb : decide (2 < t.h ((l * 3 + j) / 3) ((l * 3 + j) % 3)) = false) (hc : (!cn (Int.ofNat j) (t.h ((l * 3 + j) / 3) ((l * 3 + j) % 3))) = false) (K : Res → Orc → Prop) : runK Try.prog 1000000 (.code (loopAt Try.prog 23 1) 106 (mkT [(1, .p 0 0), (3, .i .i64 (Int.ofNat l)), (4, .i .i64 (Int.ofNat j))]) (mkH [some (tsF t)])) (Orc.t (Orc.s (Orc.s (Orc.t (Orc.t (Orc.f (Orc.t (Orc.t (Orc.t (Orc.t (Orc.t (Orc.cal [] (AV.b (cn (Int.ofNat j) (TS.h t ((l * 3 + j) / 3) ((l * 3 + j) % 3)))) [] (Orc.t (Orc.f (Orc.f Orc.z)))))))))))) Orc.z) Orc.z)) K = (decide (Int.ofNat j < 3) = true ∧ True ∧ (0 ≤ Int.ofNat l ∧ Int.ofNat l < 19) ∧ (0 ≤ Int.ofNat j ∧ Int.ofNat j < 3) ∧ l * 3 + j < 57 ∧ (!decide (TS.h t ((l * 3 + j) / 3) ((l * 3 + j) % 3)
  < 0)) = true ∧ (!decide (TS.h t ((l * 3 + j) / 3) ((l * 3 + j) % 3) < 0)) = true ∧ decide (TS.h t ((l * 3 + j) / 3) ((l * 3 + j) % 3) < 0) = false ∧ (!decide (2 < TS.h t ((l * 3 + j) / 3) ((l * 3 + j) % 3))) = true ∧ True ∧ (!decide (2 < TS.h t ((l * 3 + j) / 3) ((l * 3 + j) % 3))) = true ∧ (!decide (2 < TS.h t ((l * 3 + j) / 3) ((l * 3 + j) % 3))) = true ∧ (!decide (2 < TS.h t ((l * 3 + j) / 3) ((l * 3 + j) % 3))) = true ∧ (!decide (2 < TS.h t ((l * 3 + j) / 3) ((l * 3 + j) % 3))) = true ∧ Con Try.prog 40 [tsV t, AV.i .i64 (Int.ofNat l), AV.i .i64 (Int.ofNat j), AV.i .i64 (TS.h t ((l * 3 + j) / 3) ((l * 3 + j) % 3))] [] (AV.b (cn (Int.ofNat j) (TS.h t ((l * 3 + j) / 3) ((l * 3 + j) % 3)))) [] ∧ (!decide (2 < TS.h t ((l * 3 + j) / 3) ((l * 3 + j) % 3))) = true ∧ True ∧ decide (2 < TS.h t ((l * 3 + j) / 3) ((l * 3 + j) % 3)) = false ∧ (!cn (Int.ofNat j) (TS.h t ((l * 3 + j) / 3) ((l * 3
  + j) % 3))) = false ∧ ((-9223372036854775808) ≤ Int.ofNat j + 1 ∧ Int.ofNat j + (1 : Int) ≤ (9223372036854775807 : Int)) ∧ K (Res.st XO.nrm (z0 (z1 (AV.p 0 0) (z1 (AV.i .i64 (Int.ofNat l)) (z0 (z1 (AV.b (decide (Int.ofNat j < 3))) (zl (tsV t)) T.e) (zl (AV.i .i64 (TS.h t ((l * 3 + j) / 3) ((l * 3 + j) % 3))))) (z0 (z1 (AV.i .i64 (Int.ofNat j)) (zl (AV.b (cn (Int.ofNat j) (TS.h t ((l * 3 + j) / 3) ((l * 3 + j) % 3))))) T.e) (zl (AV.i .i64 (TS.h t ((l * 3 + j) / 3) ((l * 3 + j) % 3)))))) (z1 (AV.i .i64 (TS.h t ((l * 3 + j) / 3) ((l * 3 + j) % 3))) (z0 (z1 (AV.i .i64 (Int.ofNat j + 1)) (zl (AV.i .i64 (Int.ofNat j))) T.e) (zl (AV.b (decide (TS.h t ((l * 3 + j) / 3) ((l * 3 + j) % 3) < 0))))) (z0 (z1 (AV.ps 0 44 3 19 l) (zl (AV.b !cn (Int.ofNat j) (TS.h t ((l * 3 + j) / 3) ((l * 3 + j) % 3)))) T.e) (zl (AV.b (decide (2 < TS.h t ((l * 3 + j) / 3) ((l * 3 + j) % 3)))))))) (z0 (z1 (AV.i .i64
  (Int.ofNat j + 1)) (z0 (z1 (AV.i .i64 (Int.ofNat j)) (zl (AV.i .i64 (Int.ofNat l))) T.e) (zl (AV.i .i64 (TS.h t ((l * 3 + j) / 3) ((l * 3 + j) % 3))))) (z0 (z1 (AV.p 0 44) (zl (AV.b !cn (Int.ofNat j) (TS.h t ((l * 3 + j) / 3) ((l * 3 + j) % 3)))) T.e) (zl (AV.b (decide (2 < TS.h t ((l * 3 + j) / 3) ((l * 3 + j) % 3))))))) (z0 (z0 (z1 (AV.i .i64 (Int.ofNat l)) (zl (AV.i .i64 (TS.h t ((l * 3 + j) / 3) ((l * 3 + j) % 3)))) T.e) (zl (AV.b (decide (TS.h t ((l * 3 + j) / 3) ((l * 3 + j) % 3) < 0))))) (z1 (AV.i .i64 (Int.ofNat j)) (zl (AV.ps 0 44 1 57 (l * 3 + j))) (zl (AV.b (decide (2 < TS.h t ((l * 3 + j) / 3) ((l * 3 + j) % 3))))))))) ⟨zl (tsF t), 1, []⟩) Orc.z) := by kernel_rfl
theorem wq0_vc (t : TS) (l i n : Nat) (A M W : Nat → Int) (h1 : decide (Int.ofNat i < Int.ofNat n) = true) (s0 : decide (A i < 0) = true) (K : Res → Orc → Prop) : runK Try.prog 1000000 (.code (loopAt Try.prog 23 2) 106 (mkT [(1, .p 0 0), (3, .i .i64 (Int.ofNat l)), (6, svN n A M W), (7, .i .i64 (Int.ofNat i))]) (mkH [some (tsF t)])) (Orc.t (Orc.f (Orc.f (Orc.t (oc 20 Orc.z))))) K = (decide (Int.ofNat i < Int.ofNat n) = true ∧ (0 ≤ Int.ofNat i ∧ Int.ofNat i < ↑n) ∧ True ∧ True ∧ (0 ≤ Int.ofNat i ∧ Int.ofNat i < ↑n) ∧ True ∧ True ∧ (!decide (A i < 0)) = false ∧ (!decide (A i < 0)) = false ∧ decide (A i < 0) = true ∧ K (Res.st XO.ret (z0 (z1 (AV.p 0 0) (z1 (AV.i .i64 (Int.ofNat l)) (z1 (AV.i .i64 (Int.ofNat i)) (z0 (z0 (zl (AV.b true)) T.e) (z0 (zl (AV.b true)) T.e)) (z0 (z0 (zl (AV.b true)) T.e) (zl (AV.pv 3 (qF A M W i))))) (z0 (z0 (z0 (zl (AV.b true)) T.e) (z1 (AV.pv 3 fun j => qF A M W
  i (0 + j)) (zl (AV.tup [])) T.e)) (z0 (z1 (AV.sv 3 n (qF A M W)) (zl (AV.tup [])) T.e) (zl (AV.b (decide (A i < 0))))))) (z0 (z1 (AV.i .i64 (M i)) (z0 (z0 (zl (AV.tup [])) T.e) (z1 (AV.i .i64 (Int.ofNat i)) (zl (AV.tup [])) T.e)) (z0 (z0 (zl (AV.tup [])) T.e) (zl (AV.i .i64 (M i))))) (z0 (z0 (z0 (zl (AV.tup [])) T.e) (z1 (AV.sv 3 n (qF A M W)) (zl (AV.tup [])) T.e)) (z0 (z1 (AV.b (decide (Int.ofNat i < Int.ofNat n))) (zl (AV.tup [])) T.e) (zl (AV.tup [])))))) (z1 (AV.b false) (z0 (z1 (AV.i .i64 (A i)) (z0 (z0 (zl (AV.b true)) T.e) (z1 (AV.sv 3 n (qF A M W)) (zl (AV.b true)) T.e)) (z0 (z0 (zl (AV.b true)) T.e) (zl (AV.pv 2 fun j => qF A M W i (1 + j))))) (z0 (z0 (z0 (zl (AV.b true)) T.e) (z1 (AV.i .i64 (A i)) (zl (AV.tup [])) T.e)) (z0 (z1 (AV.i .i64 (Int.ofNat n)) (zl (AV.tup [])) T.e) (zl (AV.b (decide (A i < 0))))))) (z1 (AV.sv 3 n (qF A M W)) (z0 (z0 (z0 (zl (AV.tup [])) T.e) (z1
  (AV.pv 3 (qF A M W i)) (zl (AV.tup [])) T.e)) (z0 (z1 (AV.i .i64 (Int.ofNat i)) (zl (AV.tup [])) T.e) (zl (AV.i .i64 (A i))))) (z0 (z0 (z0 (zl (AV.tup [])) T.e) (z1 (AV.i .i64 (Int.ofNat i)) (zl (AV.b true)) T.e)) (z0 (z0 (zl (AV.tup [])) T.e) (zl (AV.tup []))))))) ⟨zl (tsF t), 1, []⟩) Orc.z) := by kernel_rfl
theorem wq1_vc (t : TS) (l i n : Nat) (A M W : Nat → Int) (h1 : decide (Int.ofNat i < Int.ofNat n) = true) (s0 : decide (A i < 0) = false) (s1 : decide (3 ≤ A i) = true) (K : Res → Orc → Prop) : runK Try.prog 1000000 (.code (loopAt Try.prog 23 2) 106 (mkT [(1, .p 0 0), (3, .i .i64 (Int.ofNat l)), (6, svN n A M W), (7, .i .i64 (Int.ofNat i))]) (mkH [some (tsF t)])) (Orc.t (Orc.t (Orc.t (Orc.f (Orc.f (Orc.f (Orc.t (oc 17 Orc.z)))))))) K = (decide (Int.ofNat i < Int.ofNat n) = true ∧ (0 ≤ Int.ofNat i ∧ Int.ofNat i < ↑n) ∧ True ∧ True ∧ (0 ≤ Int.ofNat i ∧ Int.ofNat i < ↑n) ∧ True ∧ True ∧ (!decide (A i < 0)) = true ∧ (!decide (A i < 0)) = true ∧ decide (A i < 0) = false ∧ (!decide (3 ≤ A i)) = false ∧ (!decide (3 ≤ A i)) = false ∧ decide (3 ≤ A i) = true ∧ K (Res.st XO.ret (z0 (z1 (AV.p 0 0) (z1 (AV.i .i64 (Int.ofNat l)) (z1 (AV.i .i64 (Int.ofNat i)) (z0 (z0 (zl (AV.b (decide (3 ≤ A i))))
  T.e) (z0 (zl (AV.b true)) T.e)) (z0 (z0 (zl (AV.b true)) T.e) (zl (AV.pv 3 (qF A M W i))))) (z0 (z0 (z0 (zl (AV.b true)) T.e) (z1 (AV.pv 3 fun j => qF A M W i (0 + j)) (zl (AV.tup [])) T.e)) (z0 (z1 (AV.sv 3 n (qF A M W)) (zl (AV.tup [])) T.e) (zl (AV.b (decide (A i < 0))))))) (z0 (z1 (AV.i .i64 (M i)) (z0 (z0 (zl (AV.tup [])) T.e) (z1 (AV.i .i64 (Int.ofNat i)) (zl (AV.tup [])) T.e)) (z0 (z0 (zl (AV.tup [])) T.e) (zl (AV.i .i64 (M i))))) (z0 (z0 (z0 (zl (AV.tup [])) T.e) (z1 (AV.sv 3 n (qF A M W)) (zl (AV.tup [])) T.e)) (z0 (z1 (AV.b (decide (Int.ofNat i < Int.ofNat n))) (zl (AV.tup [])) T.e) (zl (AV.i .i64 (A i))))))) (z1 (AV.b false) (z0 (z1 (AV.i .i64 (A i)) (z0 (z0 (zl (AV.b (decide (3 ≤ A i)))) T.e) (z1 (AV.sv 3 n (qF A M W)) (zl (AV.b true)) T.e)) (z0 (z0 (zl (AV.b true)) T.e) (zl (AV.pv 2 fun j => qF A M W i (1 + j))))) (z0 (z0 (z0 (zl (AV.b true)) T.e) (z1 (AV.i .i64 (A i)) (zl
  (AV.tup [])) T.e)) (z0 (z1 (AV.i .i64 (Int.ofNat n)) (zl (AV.tup [])) T.e) (zl (AV.b (decide (A i < 0))))))) (z1 (AV.sv 3 n (qF A M W)) (z0 (z0 (z0 (zl (AV.tup [])) T.e) (z1 (AV.pv 3 (qF A M W i)) (zl (AV.tup [])) T.e)) (z0 (z1 (AV.i .i64 (Int.ofNat i)) (zl (AV.tup [])) T.e) (zl (AV.i .i64 (A i))))) (z0 (z0 (z0 (zl (AV.tup [])) T.e) (z1 (AV.i .i64 (Int.ofNat i)) (zl (AV.b true)) T.e)) (z0 (z0 (zl (AV.tup [])) T.e) (zl (AV.b (decide (3 ≤ A i))))))))) ⟨zl (tsF t), 1, []⟩) Orc.z) := by kernel_rfl
theorem wq2_vc (t : TS) (l i n : Nat) (A M W : Nat → Int) (h1 : decide (Int.ofNat i < Int.ofNat n) = true) (s0 : decide (A i < 0) = false) (s1 : decide (3 ≤ A i) = false) (s2 : decide (M i < 1) = true) (K : Res → Orc → Prop) : runK Try.prog 1000000 (.code (loopAt Try.prog 23 2) 106 (mkT [(1, .p 0 0), (3, .i .i64 (Int.ofNat l)), (6, svN n A M W), (7, .i .i64 (Int.ofNat i))]) (mkH [some (tsF t)])) (Orc.t (Orc.t (Orc.t (Orc.f (Orc.t (Orc.t (Orc.f (Orc.f (Orc.f (Orc.t (oc 14 Orc.z))))))))))) K = (decide (Int.ofNat i < Int.ofNat n) = true ∧ (0 ≤ Int.ofNat i ∧ Int.ofNat i < ↑n) ∧ True ∧ True ∧ (0 ≤ Int.ofNat i ∧ Int.ofNat i < ↑n) ∧ True ∧ True ∧ (!decide (A i < 0)) = true ∧ (!decide (A i < 0)) = true ∧ decide (A i < 0) = false ∧ (!decide (3 ≤ A i)) = true ∧ (!decide (3 ≤ A i)) = true ∧ decide (3 ≤ A i) = false ∧ (!decide (M i < 1)) = false ∧ (!decide (M i < 1)) = false ∧ decide (M i < 1) =
  true ∧ K (Res.st XO.ret (z0 (z1 (AV.p 0 0) (z1 (AV.i .i64 (Int.ofNat l)) (z1 (AV.i .i64 (Int.ofNat i)) (z0 (z0 (zl (AV.b (decide (3 ≤ A i)))) T.e) (z0 (zl (AV.b true)) T.e)) (z0 (z0 (zl (AV.b true)) T.e) (zl (AV.pv 3 (qF A M W i))))) (z0 (z0 (z0 (zl (AV.b (decide (M i < 1)))) T.e) (z1 (AV.pv 3 fun j => qF A M W i (0 + j)) (zl (AV.tup [])) T.e)) (z0 (z1 (AV.sv 3 n (qF A M W)) (zl (AV.tup [])) T.e) (zl (AV.b (decide (A i < 0))))))) (z0 (z1 (AV.i .i64 (M i)) (z0 (z0 (zl (AV.i .i64 (M i))) T.e) (z1 (AV.i .i64 (Int.ofNat i)) (zl (AV.tup [])) T.e)) (z0 (z0 (zl (AV.tup [])) T.e) (zl (AV.i .i64 (M i))))) (z0 (z0 (z0 (zl (AV.tup [])) T.e) (z1 (AV.sv 3 n (qF A M W)) (zl (AV.tup [])) T.e)) (z0 (z1 (AV.b (decide (Int.ofNat i < Int.ofNat n))) (zl (AV.tup [])) T.e) (zl (AV.i .i64 (A i))))))) (z1 (AV.b false) (z0 (z1 (AV.i .i64 (A i)) (z0 (z0 (zl (AV.b (decide (3 ≤ A i)))) T.e) (z1 (AV.sv 3 n (qF A M
  W)) (zl (AV.b true)) T.e)) (z0 (z0 (zl (AV.b true)) T.e) (zl (AV.pv 2 fun j => qF A M W i (1 + j))))) (z0 (z0 (z0 (zl (AV.b (decide (M i < 1)))) T.e) (z1 (AV.i .i64 (A i)) (zl (AV.tup [])) T.e)) (z0 (z1 (AV.i .i64 (Int.ofNat n)) (zl (AV.tup [])) T.e) (zl (AV.b (decide (A i < 0))))))) (z1 (AV.sv 3 n (qF A M W)) (z0 (z0 (z0 (zl (AV.b (decide (M i < 1)))) T.e) (z1 (AV.pv 3 (qF A M W i)) (zl (AV.tup [])) T.e)) (z0 (z1 (AV.i .i64 (Int.ofNat i)) (zl (AV.tup [])) T.e) (zl (AV.i .i64 (A i))))) (z0 (z0 (z0 (zl (AV.tup [])) T.e) (z1 (AV.i .i64 (Int.ofNat i)) (zl (AV.b true)) T.e)) (z0 (z0 (zl (AV.tup [])) T.e) (zl (AV.b (decide (3 ≤ A i))))))))) ⟨zl (tsF t), 1, []⟩) Orc.z) := by kernel_rfl
theorem wq3_vc (t : TS) (l i n : Nat) (A M W : Nat → Int) (h1 : decide (Int.ofNat i < Int.ofNat n) = true) (s0 : decide (A i < 0) = false) (s1 : decide (3 ≤ A i) = false) (s2 : decide (M i < 1) = false) (s3 : decide (2 < M i) = true) (K : Res → Orc → Prop) : runK Try.prog 1000000 (.code (loopAt Try.prog 23 2) 106 (mkT [(1, .p 0 0), (3, .i .i64 (Int.ofNat l)), (6, svN n A M W), (7, .i .i64 (Int.ofNat i))]) (mkH [some (tsF t)])) (Orc.t (Orc.t (Orc.t (Orc.f (Orc.t (Orc.t (Orc.f (Orc.t (Orc.t (Orc.f (Orc.f (Orc.f (Orc.f (Orc.f (Orc.f (Orc.f (Orc.t (oc 7 Orc.z)))))))))))))))))) K = (decide (Int.ofNat i < Int.ofNat n) = true ∧ (0 ≤ Int.ofNat i ∧ Int.ofNat i < ↑n) ∧ True ∧ True ∧ (0 ≤ Int.ofNat i ∧ Int.ofNat i < ↑n) ∧ True ∧ True ∧ (!decide (A i < 0)) = true ∧ (!decide (A i < 0)) = true ∧ decide (A i < 0) = false ∧ (!decide (3 ≤ A i)) = true ∧ (!decide (3 ≤ A i)) = true ∧ decide (3 ≤ A i) =
  false ∧ (!decide (M i < 1)) = true ∧ (!decide (M i < 1)) = true ∧ decide (M i < 1) = false ∧ (!decide (2 < M i)) = false ∧ (!decide (2 < M i)) = false ∧ (!decide (2 < M i)) = false ∧ (!decide (2 < M i)) = false ∧ (!decide (2 < M i)) = false ∧ (!decide (2 < M i)) = false ∧ decide (2 < M i) = true ∧ K (Res.st XO.ret (z0 (z1 (AV.p 0 0) (z1 (AV.i .i64 (Int.ofNat l)) (z1 (AV.i .i64 (Int.ofNat i)) (z0 (z0 (zl (AV.b (decide (3 ≤ A i)))) T.e) (z0 (zl (AV.b true)) T.e)) (z0 (z0 (zl (AV.b (decide (2 < M i)))) T.e) (zl (AV.pv 3 (qF A M W i))))) (z0 (z0 (z0 (zl (AV.b (decide (M i < 1)))) T.e) (z1 (AV.pv 3 fun j => qF A M W i (0 + j)) (zl (AV.tup [])) T.e)) (z0 (z1 (AV.sv 3 n (qF A M W)) (zl (AV.tup [])) T.e) (zl (AV.b (decide (A i < 0))))))) (z0 (z1 (AV.i .i64 (M i)) (z0 (z0 (zl (AV.i .i64 (M i))) T.e) (z1 (AV.i .i64 (Int.ofNat i)) (zl (AV.tup [])) T.e)) (z0 (z0 (zl (AV.tup [])) T.e) (zl (AV.i .i64
  (M i))))) (z0 (z0 (z0 (zl (AV.i .i64 (M i))) T.e) (z1 (AV.sv 3 n (qF A M W)) (zl (AV.tup [])) T.e)) (z0 (z1 (AV.b (decide (Int.ofNat i < Int.ofNat n))) (zl (AV.tup [])) T.e) (zl (AV.i .i64 (A i))))))) (z1 (AV.b false) (z0 (z1 (AV.i .i64 (A i)) (z0 (z0 (zl (AV.b (decide (3 ≤ A i)))) T.e) (z1 (AV.sv 3 n (qF A M W)) (zl (AV.b true)) T.e)) (z0 (z0 (zl (AV.b (decide (2 < M i)))) T.e) (zl (AV.pv 2 fun j => qF A M W i (1 + j))))) (z0 (z0 (z0 (zl (AV.b (decide (M i < 1)))) T.e) (z1 (AV.i .i64 (A i)) (zl (AV.tup [])) T.e)) (z0 (z1 (AV.i .i64 (Int.ofNat n)) (zl (AV.tup [])) T.e) (zl (AV.b (decide (A i < 0))))))) (z1 (AV.sv 3 n (qF A M W)) (z0 (z0 (z0 (zl (AV.b (decide (M i < 1)))) T.e) (z1 (AV.pv 3 (qF A M W i)) (zl (AV.tup [])) T.e)) (z0 (z1 (AV.i .i64 (Int.ofNat i)) (zl (AV.tup [])) T.e) (zl (AV.i .i64 (A i))))) (z0 (z0 (z0 (zl (AV.b (decide (2 < M i)))) T.e) (z1 (AV.i .i64 (Int.ofNat i)) (zl
  (AV.b true)) T.e)) (z0 (z0 (zl (AV.tup [])) T.e) (zl (AV.b (decide (3 ≤ A i))))))))) ⟨zl (tsF t), 1, []⟩) Orc.z) := by kernel_rfl
theorem wq4_vc (t : TS) (l i n : Nat) (A M W : Nat → Int) (h1 : decide (Int.ofNat i < Int.ofNat n) = true) (s0 : decide (A i < 0) = false) (s1 : decide (3 ≤ A i) = false) (s2 : decide (M i < 1) = false) (s3 : decide (2 < M i) = false) (s4 : (!decide (W i = 0)) = true) (K : Res → Orc → Prop) : runK Try.prog 1000000 (.code (loopAt Try.prog 23 2) 106 (mkT [(1, .p 0 0), (3, .i .i64 (Int.ofNat l)), (6, svN n A M W), (7, .i .i64 (Int.ofNat i))]) (mkH [some (tsF t)])) (Orc.t (Orc.t (Orc.t (Orc.f (Orc.t (Orc.t (Orc.f (Orc.t (Orc.t (Orc.f (Orc.t (Orc.t (Orc.t (Orc.t (Orc.t (Orc.t (Orc.f (Orc.f (Orc.f (Orc.f (Orc.f (Orc.f (Orc.t (Orc.c Orc.z)))))))))))))))))))))))) K = (decide (Int.ofNat i < Int.ofNat n) = true ∧ (0 ≤ Int.ofNat i ∧ Int.ofNat i < ↑n) ∧ True ∧ True ∧ (0 ≤ Int.ofNat i ∧ Int.ofNat i < ↑n) ∧ True ∧ True ∧ (!decide (A i < 0)) = true ∧ (!decide (A i < 0)) = true ∧ decide (A i < 0) =
  false ∧ (!decide (3 ≤ A i)) = true ∧ (!decide (3 ≤ A i)) = true ∧ decide (3 ≤ A i) = false ∧ (!decide (M i < 1)) = true ∧ (!decide (M i < 1)) = true ∧ decide (M i < 1) = false ∧ (!decide (2 < M i)) = true ∧ (!decide (2 < M i)) = true ∧ (!decide (2 < M i)) = true ∧ (0 ≤ Int.ofNat i ∧ Int.ofNat i < ↑n) ∧ (!decide (2 < M i)) = true ∧ True ∧ (!decide (2 < M i)) = true ∧ True ∧ (!decide (2 < M i)) = true ∧ decide (2 < M i) = false ∧ (!!decide (W i = 0)) = false ∧ (!!decide (W i = 0)) = false ∧ (!!decide (W i = 0)) = false ∧ (!!decide (W i = 0)) = false ∧ (!!decide (W i = 0)) = false ∧ (!decide (W i = 0)) = true ∧ K (Res.st XO.ret (z0 (z1 (AV.p 0 0) (z1 (AV.i .i64 (Int.ofNat l)) (z1 (AV.i .i64 (Int.ofNat i)) (z0 (z0 (zl (AV.b (decide (3 ≤ A i)))) T.e) (z0 (zl (AV.b !decide (W i = 0))) T.e)) (z0 (z0 (zl (AV.b (decide (2 < M i)))) T.e) (zl (AV.pv 3 (qF A M W i))))) (z0 (z0 (z0 (zl (AV.b (decide
  (M i < 1)))) T.e) (z1 (AV.pv 3 fun j => qF A M W i (0 + j)) (zl (AV.tup [])) T.e)) (z0 (z1 (AV.sv 3 n (qF A M W)) (zl (AV.pv 3 (qF A M W i))) T.e) (zl (AV.b (decide (A i < 0))))))) (z0 (z1 (AV.i .i64 (M i)) (z0 (z0 (zl (AV.i .i64 (M i))) T.e) (z1 (AV.i .i64 (Int.ofNat i)) (zl (AV.tup [])) T.e)) (z0 (z0 (zl (AV.sv 3 n (qF A M W))) T.e) (zl (AV.i .i64 (M i))))) (z0 (z0 (z0 (zl (AV.i .i64 (M i))) T.e) (z1 (AV.sv 3 n (qF A M W)) (zl (AV.tup [])) T.e)) (z0 (z1 (AV.b (decide (Int.ofNat i < Int.ofNat n))) (zl (AV.i .i64 (W i))) T.e) (zl (AV.i .i64 (A i))))))) (z1 (AV.b false) (z0 (z1 (AV.i .i64 (A i)) (z0 (z0 (zl (AV.b (decide (3 ≤ A i)))) T.e) (z1 (AV.sv 3 n (qF A M W)) (zl (AV.b !decide (W i = 0))) T.e)) (z0 (z0 (zl (AV.b (decide (2 < M i)))) T.e) (zl (AV.pv 2 fun j => qF A M W i (1 + j))))) (z0 (z0 (z0 (zl (AV.b (decide (M i < 1)))) T.e) (z1 (AV.i .i64 (A i)) (zl (AV.tup [])) T.e)) (z0 (z1
  (AV.i .i64 (Int.ofNat n)) (zl (AV.pv 1 fun j => qF A M W i (2 + j))) T.e) (zl (AV.b (decide (A i < 0))))))) (z1 (AV.sv 3 n (qF A M W)) (z0 (z0 (z0 (zl (AV.b (decide (M i < 1)))) T.e) (z1 (AV.pv 3 (qF A M W i)) (zl (AV.tup [])) T.e)) (z0 (z1 (AV.i .i64 (Int.ofNat i)) (zl (AV.i .i64 (Int.ofNat i))) T.e) (zl (AV.i .i64 (A i))))) (z0 (z0 (z0 (zl (AV.b (decide (2 < M i)))) T.e) (z1 (AV.i .i64 (Int.ofNat i)) (zl (AV.b true)) T.e)) (z0 (z0 (zl (AV.b !decide (W i = 0))) T.e) (zl (AV.b (decide (3 ≤ A i))))))))) ⟨zl (tsF t), 1, []⟩) Orc.z) := by kernel_rfl
theorem wq5_vc (t : TS) (ii : Int → Int) (l i n : Nat) (A M W : Nat → Int) (h1 : decide (Int.ofNat i < Int.ofNat n) = true) (s0 : decide (A i < 0) = false) (s1 : decide (3 ≤ A i) = false) (s2 : decide (M i < 1) = false) (s3 : decide (2 < M i) = false) (s4 : (!decide (W i = 0)) = false) (s5 : (!decide (ii (A i) = Int.ofNat i)) = true) (K : Res → Orc → Prop) : runK Try.prog 1000000 (.code (loopAt Try.prog 23 2) 106 (mkT [(1, .p 0 0), (3, .i .i64 (Int.ofNat l)), (6, svN n A M W), (7, .i .i64 (Int.ofNat i))]) (mkH [some (tsF t)])) (Orc.t (Orc.t (Orc.t (Orc.f (Orc.t (Orc.t (Orc.f (Orc.t (Orc.t (Orc.f (Orc.t (Orc.t (Orc.t (Orc.t (Orc.t (Orc.t (Orc.f (Orc.t (Orc.t (Orc.t (Orc.cal [] (AV.i .i64 (ii (A i))) [] (Orc.t (Orc.t (Orc.f (Orc.t Orc.z))))))))))))))))))))))))) K = (decide (Int.ofNat i < Int.ofNat n) = true ∧ (0 ≤ Int.ofNat i ∧ Int.ofNat i < ↑n) ∧ True ∧ True ∧ (0 ≤ Int.ofNat i ∧ Int.ofNat
  i < ↑n) ∧ True ∧ True ∧ (!decide (A i < 0)) = true ∧ (!decide (A i < 0)) = true ∧ decide (A i < 0) = false ∧ (!decide (3 ≤ A i)) = true ∧ (!decide (3 ≤ A i)) = true ∧ decide (3 ≤ A i) = false ∧ (!decide (M i < 1)) = true ∧ (!decide (M i < 1)) = true ∧ decide (M i < 1) = false ∧ (!decide (2 < M i)) = true ∧ (!decide (2 < M i)) = true ∧ (!decide (2 < M i)) = true ∧ (0 ≤ Int.ofNat i ∧ Int.ofNat i < ↑n) ∧ (!decide (2 < M i)) = true ∧ True ∧ (!decide (2 < M i)) = true ∧ True ∧ (!decide (2 < M i)) = true ∧ decide (2 < M i) = false ∧ (!!decide (W i = 0)) = true ∧ (!!decide (W i = 0)) = true ∧ (!!decide (W i = 0)) = true ∧ Con Try.prog 38 [svN n A M W, AV.i .i64 (A i)] [] (AV.i .i64 (ii (A i))) [] ∧ (!!decide (W i = 0)) = true ∧ (!!decide (W i = 0)) = true ∧ (!decide (W i = 0)) = false ∧ (!decide (ii (A i) = Int.ofNat i)) = true ∧ K (Res.st XO.ret (z0 (z1 (AV.p 0 0) (z1 (AV.i .i64 (Int.ofNat
  l)) (z1 (AV.i .i64 (Int.ofNat i)) (z0 (z0 (zl (AV.b (decide (3 ≤ A i)))) T.e) (z0 (zl (AV.b !decide (W i = 0))) T.e)) (z0 (z0 (zl (AV.b (decide (2 < M i)))) T.e) (zl (AV.pv 3 (qF A M W i))))) (z0 (z0 (z0 (zl (AV.b (decide (M i < 1)))) T.e) (z1 (AV.pv 3 fun j => qF A M W i (0 + j)) (zl (AV.i .i64 (ii (A i)))) T.e)) (z0 (z1 (AV.sv 3 n (qF A M W)) (zl (AV.pv 3 (qF A M W i))) T.e) (zl (AV.b (decide (A i < 0))))))) (z0 (z1 (AV.i .i64 (M i)) (z0 (z0 (zl (AV.i .i64 (M i))) T.e) (z1 (AV.i .i64 (Int.ofNat i)) (zl (AV.sv 3 n (qF A M W))) T.e)) (z0 (z0 (zl (AV.sv 3 n (qF A M W))) T.e) (zl (AV.i .i64 (M i))))) (z0 (z0 (z0 (zl (AV.i .i64 (M i))) T.e) (z1 (AV.sv 3 n (qF A M W)) (zl (AV.b !decide (ii (A i) = Int.ofNat i))) T.e)) (z0 (z1 (AV.b (decide (Int.ofNat i < Int.ofNat n))) (zl (AV.i .i64 (W i))) T.e) (zl (AV.i .i64 (A i))))))) (z1 (AV.b false) (z0 (z1 (AV.i .i64 (A i)) (z0 (z0 (zl (AV.b (decide
  (3 ≤ A i)))) T.e) (z1 (AV.sv 3 n (qF A M W)) (zl (AV.b !decide (W i = 0))) T.e)) (z0 (z0 (zl (AV.b (decide (2 < M i)))) T.e) (zl (AV.pv 2 fun j => qF A M W i (1 + j))))) (z0 (z0 (z0 (zl (AV.b (decide (M i < 1)))) T.e) (z1 (AV.i .i64 (A i)) (zl (AV.i .i64 (Int.ofNat i))) T.e)) (z0 (z1 (AV.i .i64 (Int.ofNat n)) (zl (AV.pv 1 fun j => qF A M W i (2 + j))) T.e) (zl (AV.b (decide (A i < 0))))))) (z1 (AV.sv 3 n (qF A M W)) (z0 (z0 (z0 (zl (AV.b (decide (M i < 1)))) T.e) (z1 (AV.pv 3 (qF A M W i)) (zl (AV.i .i64 (A i))) T.e)) (z0 (z1 (AV.i .i64 (Int.ofNat i)) (zl (AV.i .i64 (Int.ofNat i))) T.e) (zl (AV.i .i64 (A i))))) (z0 (z0 (z0 (zl (AV.b (decide (2 < M i)))) T.e) (z1 (AV.i .i64 (Int.ofNat i)) (zl (AV.b !decide (ii (A i) = Int.ofNat i))) T.e)) (z0 (z0 (zl (AV.b !decide (W i = 0))) T.e) (zl (AV.b (decide (3 ≤ A i))))))))) ⟨zl (tsF t), 1, []⟩) Orc.z) := by kernel_rfl
theorem wq6_vc (t : TS) (ii : Int → Int) (l i n : Nat) (A M W : Nat → Int) (h1 : decide (Int.ofNat i < Int.ofNat n) = true) (s0 : decide (A i < 0) = false) (s1 : decide (3 ≤ A i) = false) (s2 : decide (M i < 1) = false) (s3 : decide (2 < M i) = false) (s4 : (!decide (W i = 0)) = false) (s5 : (!decide (ii (A i) = Int.ofNat i)) = false) (s6 : decide (M i ≤ t.h ((l * 3 + Int.toNat (A i)) / 3) ((l * 3 + Int.toNat (A i)) % 3)) = true) (K : Res → Orc → Prop) : runK Try.prog 1000000 (.code (loopAt Try.prog 23 2) 106 (mkT [(1, .p 0 0), (3, .i .i64 (Int.ofNat l)), (6, svN n A M W), (7, .i .i64 (Int.ofNat i))]) (mkH [some (tsF t)])) (Orc.t (Orc.t (Orc.t (Orc.f (Orc.t (Orc.t (Orc.f (Orc.t (Orc.t (Orc.f (Orc.t (Orc.t (Orc.t (Orc.t (Orc.t (Orc.t (Orc.f (Orc.t (Orc.t (Orc.t (Orc.cal [] (AV.i .i64 (ii (A i))) [] (Orc.t (Orc.t (Orc.f (Orc.f (Orc.s (Orc.s (Orc.f (Orc.f (Orc.f (Orc.f (Orc.t (Orc.c
  Orc.z)))))) Orc.z) Orc.z)))))))))))))))))))))))))) K = (decide (Int.ofNat i < Int.ofNat n) = true ∧ (0 ≤ Int.ofNat i ∧ Int.ofNat i < ↑n) ∧ True ∧ True ∧ (0 ≤ Int.ofNat i ∧ Int.ofNat i < ↑n) ∧ True ∧ True ∧ (!decide (A i < 0)) = true ∧ (!decide (A i < 0)) = true ∧ decide (A i < 0) = false ∧ (!decide (3 ≤ A i)) = true ∧ (!decide (3 ≤ A i)) = true ∧ decide (3 ≤ A i) = false ∧ (!decide (M i < 1)) = true ∧ (!decide (M i < 1)) = true ∧ decide (M i < 1) = false ∧ (!decide (2 < M i)) = true ∧ (!decide (2 < M i)) = true ∧ (!decide (2 < M i)) = true ∧ (0 ≤ Int.ofNat i ∧ Int.ofNat i < ↑n) ∧ (!decide (2 < M i)) = true ∧ True ∧ (!decide (2 < M i)) = true ∧ True ∧ (!decide (2 < M i)) = true ∧ decide (2 < M i) = false ∧ (!!decide (W i = 0)) = true ∧ (!!decide (W i = 0)) = true ∧ (!!decide (W i = 0)) = true ∧ Con Try.prog 38 [svN n A M W, AV.i .i64 (A i)] [] (AV.i .i64 (ii (A i))) [] ∧ (!!decide (W i =
  0)) = true ∧ (!!decide (W i = 0)) = true ∧ (!decide (W i = 0)) = false ∧ (!decide (ii (A i) = Int.ofNat i)) = false ∧ True ∧ (0 ≤ Int.ofNat l ∧ Int.ofNat l < 19) ∧ (0 ≤ A i ∧ A i < 3) ∧ l * 3 + Int.toNat (A i) < 57 ∧ (!decide (M i ≤ TS.h t ((l * 3 + Int.toNat (A i)) / 3) ((l * 3 + Int.toNat (A i)) % 3))) = false ∧ (!decide (M i ≤ TS.h t ((l * 3 + Int.toNat (A i)) / 3) ((l * 3 + Int.toNat (A i)) % 3))) = false ∧ (!decide (M i ≤ TS.h t ((l * 3 + Int.toNat (A i)) / 3) ((l * 3 + Int.toNat (A i)) % 3))) = false ∧ (!decide (M i ≤ TS.h t ((l * 3 + Int.toNat (A i)) / 3) ((l * 3 + Int.toNat (A i)) % 3))) = false ∧ decide (M i ≤ TS.h t ((l * 3 + Int.toNat (A i)) / 3) ((l * 3 + Int.toNat (A i)) % 3)) = true ∧ K (Res.st XO.ret (z0 (z1 (AV.p 0 0) (z1 (AV.i .i64 (Int.ofNat l)) (z1 (AV.i .i64 (Int.ofNat i)) (z0 (z0 (zl (AV.b (decide (3 ≤ A i)))) (zl (AV.b (decide (M i ≤ TS.h t ((l * 3 + Int.toNat (A
  i)) / 3) ((l * 3 + Int.toNat (A i)) % 3)))))) (z0 (zl (AV.b !decide (W i = 0))) T.e)) (z0 (z0 (zl (AV.b (decide (2 < M i)))) (zl (AV.tup []))) (z1 (AV.pv 3 (qF A M W i)) (zl (AV.i .i64 (M i))) T.e))) (z0 (z0 (z0 (zl (AV.b (decide (M i < 1)))) (zl (AV.tup []))) (z1 (AV.pv 3 fun j => qF A M W i (0 + j)) (zl (AV.i .i64 (ii (A i)))) T.e)) (z0 (z1 (AV.sv 3 n (qF A M W)) (zl (AV.pv 3 (qF A M W i))) T.e) (z1 (AV.b (decide (A i < 0))) (zl (AV.ps 0 44 3 19 l)) T.e)))) (z0 (z1 (AV.i .i64 (M i)) (z0 (z0 (zl (AV.i .i64 (M i))) (zl (AV.tup []))) (z1 (AV.i .i64 (Int.ofNat i)) (zl (AV.sv 3 n (qF A M W))) T.e)) (z0 (z0 (zl (AV.sv 3 n (qF A M W))) (zl (AV.b true))) (z1 (AV.i .i64 (M i)) (zl (AV.i .i64 (A i))) T.e))) (z0 (z0 (z0 (zl (AV.i .i64 (M i))) (zl (AV.tup []))) (z1 (AV.sv 3 n (qF A M W)) (zl (AV.b !decide (ii (A i) = Int.ofNat i))) T.e)) (z0 (z1 (AV.b (decide (Int.ofNat i < Int.ofNat n))) (zl
  (AV.i .i64 (W i))) T.e) (z1 (AV.i .i64 (A i)) (zl (AV.i .i64 (TS.h t ((l * 3 + Int.toNat (A i)) / 3) ((l * 3 + Int.toNat (A i)) % 3)))) T.e))))) (z1 (AV.b false) (z0 (z1 (AV.i .i64 (A i)) (z0 (z0 (zl (AV.b (decide (3 ≤ A i)))) (zl (AV.tup []))) (z1 (AV.sv 3 n (qF A M W)) (zl (AV.b !decide (W i = 0))) T.e)) (z0 (z0 (zl (AV.b (decide (2 < M i)))) (zl (AV.tup []))) (z1 (AV.pv 2 fun j => qF A M W i (1 + j)) (zl (AV.i .i64 (Int.ofNat l))) T.e))) (z0 (z0 (z0 (zl (AV.b (decide (M i < 1)))) (zl (AV.tup []))) (z1 (AV.i .i64 (A i)) (zl (AV.i .i64 (Int.ofNat i))) T.e)) (z0 (z1 (AV.i .i64 (Int.ofNat n)) (zl (AV.pv 1 fun j => qF A M W i (2 + j))) T.e) (z1 (AV.b (decide (A i < 0))) (zl (AV.ps 0 44 1 57 (l * 3 + Int.toNat (A i)))) T.e)))) (z1 (AV.sv 3 n (qF A M W)) (z0 (z0 (z0 (zl (AV.b (decide (M i < 1)))) (zl (AV.tup []))) (z1 (AV.pv 3 (qF A M W i)) (zl (AV.i .i64 (A i))) T.e)) (z0 (z1 (AV.i .i64
  (Int.ofNat i)) (zl (AV.i .i64 (Int.ofNat i))) T.e) (z1 (AV.i .i64 (A i)) (zl (AV.p 0 44)) T.e))) (z0 (z0 (z0 (zl (AV.b (decide (2 < M i)))) (zl (AV.tup []))) (z1 (AV.i .i64 (Int.ofNat i)) (zl (AV.b !decide (ii (A i) = Int.ofNat i))) T.e)) (z0 (z0 (zl (AV.b !decide (W i = 0))) T.e) (z1 (AV.b (decide (3 ≤ A i))) (zl (AV.b (decide (M i ≤ TS.h t ((l * 3 + Int.toNat (A i)) / 3) ((l * 3 + Int.toNat (A i)) % 3))))) T.e)))))) ⟨zl (tsF t), 1, []⟩) Orc.z) := by kernel_rfl
theorem wq7_vc (t : TS) (cn : Int → Int → Bool) (ii : Int → Int) (l i n : Nat) (A M W : Nat → Int) (h1 : decide (Int.ofNat i < Int.ofNat n) = true) (s0 : decide (A i < 0) = false) (s1 : decide (3 ≤ A i) = false) (s2 : decide (M i < 1) = false) (s3 : decide (2 < M i) = false) (s4 : (!decide (W i = 0)) = false) (s5 : (!decide (ii (A i) = Int.ofNat i)) = false) (s6 : decide (M i ≤ t.h ((l * 3 + Int.toNat (A i)) / 3) ((l * 3 + Int.toNat (A i)) % 3)) = false) (s7 : decide (Int.ofNat i = 0) = true) (s8 : cn (A i) (M i) = true) (K : Res → Orc → Prop) : runK Try.prog 1000000 (.code (loopAt Try.prog 23 2) 106 (mkT [(1, .p 0 0), (3, .i .i64 (Int.ofNat l)), (6, svN n A M W), (7, .i .i64 (Int.ofNat i))]) (mkH [some (tsF t)])) (Orc.t (Orc.t (Orc.t (Orc.f (Orc.t (Orc.t (Orc.f (Orc.t (Orc.t (Orc.f (Orc.t (Orc.t (Orc.t (Orc.t (Orc.t (Orc.t (Orc.f (Orc.t (Orc.t (Orc.t (Orc.cal [] (AV.i .i64 (ii (A i)))
  [] (Orc.t (Orc.t (Orc.f (Orc.f (Orc.s (Orc.s (Orc.t (Orc.t (Orc.t (Orc.t (Orc.t (Orc.t (Orc.t (Orc.t (Orc.cal [] (AV.b (cn (A i) (M i))) [] (Orc.t (Orc.t (Orc.f (Orc.t Orc.z))))))))))))) Orc.z) Orc.z)))))))))))))))))))))))))) K = (decide (Int.ofNat i < Int.ofNat n) = true ∧ (0 ≤ Int.ofNat i ∧ Int.ofNat i < ↑n) ∧ True ∧ True ∧ (0 ≤ Int.ofNat i ∧ Int.ofNat i < ↑n) ∧ True ∧ True ∧ (!decide (A i < 0)) = true ∧ (!decide (A i < 0)) = true ∧ decide (A i < 0) = false ∧ (!decide (3 ≤ A i)) = true ∧ (!decide (3 ≤ A i)) = true ∧ decide (3 ≤ A i) = false ∧ (!decide (M i < 1)) = true ∧ (!decide (M i < 1)) = true ∧ decide (M i < 1) = false ∧ (!decide (2 < M i)) = true ∧ (!decide (2 < M i)) = true ∧ (!decide (2 < M i)) = true ∧ (0 ≤ Int.ofNat i ∧ Int.ofNat i < ↑n) ∧ (!decide (2 < M i)) = true ∧ True ∧ (!decide (2 < M i)) = true ∧ True ∧ (!decide (2 < M i)) = true ∧ decide (2 < M i) = false ∧ (!!decide
  (W i = 0)) = true ∧ (!!decide (W i = 0)) = true ∧ (!!decide (W i = 0)) = true ∧ Con Try.prog 38 [svN n A M W, AV.i .i64 (A i)] [] (AV.i .i64 (ii (A i))) [] ∧ (!!decide (W i = 0)) = true ∧ (!!decide (W i = 0)) = true ∧ (!decide (W i = 0)) = false ∧ (!decide (ii (A i) = Int.ofNat i)) = false ∧ True ∧ (0 ≤ Int.ofNat l ∧ Int.ofNat l < 19) ∧ (0 ≤ A i ∧ A i < 3) ∧ l * 3 + Int.toNat (A i) < 57 ∧ (!decide (M i ≤ TS.h t ((l * 3 + Int.toNat (A i)) / 3) ((l * 3 + Int.toNat (A i)) % 3))) = true ∧ (!decide (M i ≤ TS.h t ((l * 3 + Int.toNat (A i)) / 3) ((l * 3 + Int.toNat (A i)) % 3))) = true ∧ (!decide (M i ≤ TS.h t ((l * 3 + Int.toNat (A i)) / 3) ((l * 3 + Int.toNat (A i)) % 3))) = true ∧ decide (Int.ofNat i = 0) = true ∧ True ∧ decide (Int.ofNat i = 0) = true ∧ decide (Int.ofNat i = 0) = true ∧ decide (Int.ofNat i = 0) = true ∧ decide (Int.ofNat i = 0) = true ∧ Con Try.prog 40 [tsV t, AV.i .i64
  (Int.ofNat l), AV.i .i64 (A i), AV.i .i64 (M i)] [] (AV.b (cn (A i) (M i))) [] ∧ (!decide (M i ≤ TS.h t ((l * 3 + Int.toNat (A i)) / 3) ((l * 3 + Int.toNat (A i)) % 3))) = true ∧ decide (Int.ofNat i = 0) = true ∧ decide (M i ≤ TS.h t ((l * 3 + Int.toNat (A i)) / 3) ((l * 3 + Int.toNat (A i)) % 3)) = false ∧ cn (A i) (M i) = true ∧ K (Res.st XO.ret (z0 (z1 (AV.p 0 0) (z1 (AV.i .i64 (Int.ofNat l)) (z1 (AV.i .i64 (Int.ofNat i)) (z0 (z0 (zl (AV.b (decide (3 ≤ A i)))) (zl (AV.b (decide (M i ≤ TS.h t ((l * 3 + Int.toNat (A i)) / 3) ((l * 3 + Int.toNat (A i)) % 3)))))) (z0 (zl (AV.b !decide (W i = 0))) T.e)) (z0 (z0 (zl (AV.b (decide (2 < M i)))) (zl (AV.b (cn (A i) (M i))))) (z1 (AV.pv 3 (qF A M W i)) (zl (AV.i .i64 (M i))) T.e))) (z0 (z0 (z0 (zl (AV.b (decide (M i < 1)))) (zl (tsV t))) (z1 (AV.pv 3 fun j => qF A M W i (0 + j)) (zl (AV.i .i64 (ii (A i)))) T.e)) (z0 (z1 (AV.sv 3 n (qF A M W))
  (zl (AV.pv 3 (qF A M W i))) T.e) (z1 (AV.b (decide (A i < 0))) (zl (AV.ps 0 44 3 19 l)) T.e)))) (z0 (z1 (AV.i .i64 (M i)) (z0 (z0 (zl (AV.i .i64 (M i))) (zl (AV.b (decide (Int.ofNat i = 0))))) (z1 (AV.i .i64 (Int.ofNat i)) (zl (AV.sv 3 n (qF A M W))) T.e)) (z0 (z0 (zl (AV.sv 3 n (qF A M W))) (zl (AV.b (cn (A i) (M i))))) (z1 (AV.i .i64 (M i)) (zl (AV.i .i64 (A i))) T.e))) (z0 (z0 (z0 (zl (AV.i .i64 (M i))) (zl (AV.i .i64 (A i)))) (z1 (AV.sv 3 n (qF A M W)) (zl (AV.b !decide (ii (A i) = Int.ofNat i))) T.e)) (z0 (z1 (AV.b (decide (Int.ofNat i < Int.ofNat n))) (zl (AV.i .i64 (W i))) T.e) (z1 (AV.i .i64 (A i)) (zl (AV.i .i64 (TS.h t ((l * 3 + Int.toNat (A i)) / 3) ((l * 3 + Int.toNat (A i)) % 3)))) T.e))))) (z1 (AV.b false) (z0 (z1 (AV.i .i64 (A i)) (z0 (z0 (zl (AV.b (decide (3 ≤ A i)))) (zl (AV.i .i64 (Int.ofNat i)))) (z1 (AV.sv 3 n (qF A M W)) (zl (AV.b !decide (W i = 0))) T.e)) (z0 (z0
  (zl (AV.b (decide (2 < M i)))) (zl (AV.b (cn (A i) (M i))))) (z1 (AV.pv 2 fun j => qF A M W i (1 + j)) (zl (AV.i .i64 (Int.ofNat l))) T.e))) (z0 (z0 (z0 (zl (AV.b (decide (M i < 1)))) (zl (AV.i .i64 (Int.ofNat l)))) (z1 (AV.i .i64 (A i)) (zl (AV.i .i64 (Int.ofNat i))) T.e)) (z0 (z1 (AV.i .i64 (Int.ofNat n)) (zl (AV.pv 1 fun j => qF A M W i (2 + j))) T.e) (z1 (AV.b (decide (A i < 0))) (zl (AV.ps 0 44 1 57 (l * 3 + Int.toNat (A i)))) T.e)))) (z1 (AV.sv 3 n (qF A M W)) (z0 (z0 (z0 (zl (AV.b (decide (M i < 1)))) (zl (AV.b (decide (Int.ofNat i = 0))))) (z1 (AV.pv 3 (qF A M W i)) (zl (AV.i .i64 (A i))) T.e)) (z0 (z1 (AV.i .i64 (Int.ofNat i)) (zl (AV.i .i64 (Int.ofNat i))) T.e) (z1 (AV.i .i64 (A i)) (zl (AV.p 0 44)) T.e))) (z0 (z0 (z0 (zl (AV.b (decide (2 < M i)))) (zl (AV.i .i64 (M i)))) (z1 (AV.i .i64 (Int.ofNat i)) (zl (AV.b !decide (ii (A i) = Int.ofNat i))) T.e)) (z0 (z0 (zl (AV.b !decide
  (W i = 0))) T.e) (z1 (AV.b (decide (3 ≤ A i))) (zl (AV.b (decide (M i ≤ TS.h t ((l * 3 + Int.toNat (A i)) / 3) ((l * 3 + Int.toNat (A i)) % 3))))) T.e)))))) ⟨zl (tsF t), 1, []⟩) Orc.z) := by kernel_rfl
theorem wqg_vc (t : TS) (cn : Int → Int → Bool) (ii : Int → Int) (l i n : Nat) (A M W : Nat → Int) (h1 : decide (Int.ofNat i < Int.ofNat n) = true) (s0 : decide (A i < 0) = false) (s1 : decide (3 ≤ A i) = false) (s2 : decide (M i < 1) = false) (s3 : decide (2 < M i) = false) (s4 : (!decide (W i = 0)) = false) (s5 : (!decide (ii (A i) = Int.ofNat i)) = false) (s6 : decide (M i ≤ t.h ((l * 3 + Int.toNat (A i)) / 3) ((l * 3 + Int.toNat (A i)) % 3)) = false) (s7 : decide (Int.ofNat i = 0) = true) (s8 : cn (A i) (M i) = false) (K : Res → Orc → Prop) : runK Try.prog 1000000 (.code (loopAt Try.prog 23 2) 106 (mkT [(1, .p 0 0), (3, .i .i64 (Int.ofNat l)), (6, svN n A M W), (7, .i .i64 (Int.ofNat i))]) (mkH [some (tsF t)])) (Orc.t (Orc.t (Orc.t (Orc.f (Orc.t (Orc.t (Orc.f (Orc.t (Orc.t (Orc.f (Orc.t (Orc.t (Orc.t (Orc.t (Orc.t (Orc.t (Orc.f (Orc.t (Orc.t (Orc.t (Orc.cal [] (AV.i .i64 (ii (A i)))
  [] (Orc.t (Orc.t (Orc.f (Orc.f (Orc.s (Orc.s (Orc.t (Orc.t (Orc.t (Orc.t (Orc.t (Orc.t (Orc.t (Orc.t (Orc.cal [] (AV.b (cn (A i) (M i))) [] (Orc.t (Orc.t (Orc.f (Orc.f Orc.z))))))))))))) Orc.z) Orc.z)))))))))))))))))))))))))) K = (decide (Int.ofNat i < Int.ofNat n) = true ∧ (0 ≤ Int.ofNat i ∧ Int.ofNat i < ↑n) ∧ True ∧ True ∧ (0 ≤ Int.ofNat i ∧ Int.ofNat i < ↑n) ∧ True ∧ True ∧ (!decide (A i < 0)) = true ∧ (!decide (A i < 0)) = true ∧ decide (A i < 0) = false ∧ (!decide (3 ≤ A i)) = true ∧ (!decide (3 ≤ A i)) = true ∧ decide (3 ≤ A i) = false ∧ (!decide (M i < 1)) = true ∧ (!decide (M i < 1)) = true ∧ decide (M i < 1) = false ∧ (!decide (2 < M i)) = true ∧ (!decide (2 < M i)) = true ∧ (!decide (2 < M i)) = true ∧ (0 ≤ Int.ofNat i ∧ Int.ofNat i < ↑n) ∧ (!decide (2 < M i)) = true ∧ True ∧ (!decide (2 < M i)) = true ∧ True ∧ (!decide (2 < M i)) = true ∧ decide (2 < M i) = false ∧ (!!decide
  (W i = 0)) = true ∧ (!!decide (W i = 0)) = true ∧ (!!decide (W i = 0)) = true ∧ Con Try.prog 38 [svN n A M W, AV.i .i64 (A i)] [] (AV.i .i64 (ii (A i))) [] ∧ (!!decide (W i = 0)) = true ∧ (!!decide (W i = 0)) = true ∧ (!decide (W i = 0)) = false ∧ (!decide (ii (A i) = Int.ofNat i)) = false ∧ True ∧ (0 ≤ Int.ofNat l ∧ Int.ofNat l < 19) ∧ (0 ≤ A i ∧ A i < 3) ∧ l * 3 + Int.toNat (A i) < 57 ∧ (!decide (M i ≤ TS.h t ((l * 3 + Int.toNat (A i)) / 3) ((l * 3 + Int.toNat (A i)) % 3))) = true ∧ (!decide (M i ≤ TS.h t ((l * 3 + Int.toNat (A i)) / 3) ((l * 3 + Int.toNat (A i)) % 3))) = true ∧ (!decide (M i ≤ TS.h t ((l * 3 + Int.toNat (A i)) / 3) ((l * 3 + Int.toNat (A i)) % 3))) = true ∧ decide (Int.ofNat i = 0) = true ∧ True ∧ decide (Int.ofNat i = 0) = true ∧ decide (Int.ofNat i = 0) = true ∧ decide (Int.ofNat i = 0) = true ∧ decide (Int.ofNat i = 0) = true ∧ Con Try.prog 40 [tsV t, AV.i .i64
  (Int.ofNat l), AV.i .i64 (A i), AV.i .i64 (M i)] [] (AV.b (cn (A i) (M i))) [] ∧ (!decide (M i ≤ TS.h t ((l * 3 + Int.toNat (A i)) / 3) ((l * 3 + Int.toNat (A i)) % 3))) = true ∧ decide (Int.ofNat i = 0) = true ∧ decide (M i ≤ TS.h t ((l * 3 + Int.toNat (A i)) / 3) ((l * 3 + Int.toNat (A i)) % 3)) = false ∧ cn (A i) (M i) = false ∧ ((-9223372036854775808) ≤ Int.ofNat i + 1 ∧ Int.ofNat i + (1 : Int) ≤ (9223372036854775807 : Int)) ∧ K (Res.st XO.nrm (z0 (z1 (AV.p 0 0) (z1 (AV.i .i64 (Int.ofNat l)) (z1 (AV.i .i64 (Int.ofNat i + 1)) (z0 (z0 (zl (AV.b (decide (3 ≤ A i)))) (zl (AV.b (decide (M i ≤ TS.h t ((l * 3 + Int.toNat (A i)) / 3) ((l * 3 + Int.toNat (A i)) % 3)))))) (z1 (AV.i .i64 (Int.ofNat i + 1)) (zl (AV.b !decide (W i = 0))) T.e)) (z0 (z0 (zl (AV.b (decide (2 < M i)))) (zl (AV.b (cn (A i) (M i))))) (z1 (AV.pv 3 (qF A M W i)) (zl (AV.i .i64 (M i))) T.e))) (z0 (z0 (z0 (zl (AV.b
  (decide (M i < 1)))) (zl (tsV t))) (z1 (AV.pv 3 fun j => qF A M W i (0 + j)) (zl (AV.i .i64 (ii (A i)))) T.e)) (z0 (z1 (AV.sv 3 n (qF A M W)) (zl (AV.pv 3 (qF A M W i))) T.e) (z1 (AV.b (decide (A i < 0))) (zl (AV.ps 0 44 3 19 l)) T.e)))) (z0 (z1 (AV.i .i64 (M i)) (z0 (z0 (zl (AV.i .i64 (M i))) (zl (AV.b (decide (Int.ofNat i = 0))))) (z1 (AV.i .i64 (Int.ofNat i)) (zl (AV.sv 3 n (qF A M W))) T.e)) (z0 (z0 (zl (AV.sv 3 n (qF A M W))) (zl (AV.b (cn (A i) (M i))))) (z1 (AV.i .i64 (M i)) (zl (AV.i .i64 (A i))) T.e))) (z0 (z0 (z0 (zl (AV.i .i64 (M i))) (zl (AV.i .i64 (A i)))) (z1 (AV.sv 3 n (qF A M W)) (zl (AV.b !decide (ii (A i) = Int.ofNat i))) T.e)) (z0 (z1 (AV.b (decide (Int.ofNat i < Int.ofNat n))) (zl (AV.i .i64 (W i))) T.e) (z1 (AV.i .i64 (A i)) (zl (AV.i .i64 (TS.h t ((l * 3 + Int.toNat (A i)) / 3) ((l * 3 + Int.toNat (A i)) % 3)))) T.e))))) (z0 (z0 (z1 (AV.i .i64 (A i)) (z0 (z0 (zl
  (AV.b (decide (3 ≤ A i)))) (zl (AV.i .i64 (Int.ofNat i)))) (z1 (AV.sv 3 n (qF A M W)) (zl (AV.b !decide (W i = 0))) T.e)) (z0 (z0 (zl (AV.b (decide (2 < M i)))) (zl (AV.b (cn (A i) (M i))))) (z1 (AV.pv 2 fun j => qF A M W i (1 + j)) (zl (AV.i .i64 (Int.ofNat l))) T.e))) (z0 (z0 (z0 (zl (AV.b (decide (M i < 1)))) (zl (AV.i .i64 (Int.ofNat l)))) (z1 (AV.i .i64 (A i)) (zl (AV.i .i64 (Int.ofNat i))) T.e)) (z0 (z1 (AV.i .i64 (Int.ofNat n)) (zl (AV.pv 1 fun j => qF A M W i (2 + j))) T.e) (z1 (AV.b (decide (A i < 0))) (zl (AV.ps 0 44 1 57 (l * 3 + Int.toNat (A i)))) T.e)))) (z1 (AV.sv 3 n (qF A M W)) (z0 (z0 (z0 (zl (AV.b (decide (M i < 1)))) (zl (AV.b (decide (Int.ofNat i = 0))))) (z1 (AV.pv 3 (qF A M W i)) (zl (AV.i .i64 (A i))) T.e)) (z0 (z1 (AV.i .i64 (Int.ofNat i)) (zl (AV.i .i64 (Int.ofNat i))) T.e) (z1 (AV.i .i64 (A i)) (zl (AV.p 0 44)) T.e))) (z0 (z0 (z0 (zl (AV.b (decide (2 < M i))))
  (zl (AV.i .i64 (M i)))) (z1 (AV.i .i64 (Int.ofNat i)) (zl (AV.b !decide (ii (A i) = Int.ofNat i))) T.e)) (z0 (z1 (AV.i .i64 (Int.ofNat i)) (zl (AV.b !decide (W i = 0))) T.e) (z1 (AV.b (decide (3 ≤ A i))) (zl (AV.b (decide (M i ≤ TS.h t ((l * 3 + Int.toNat (A i)) / 3) ((l * 3 + Int.toNat (A i)) % 3))))) T.e)))))) ⟨zl (tsF t), 1, []⟩) Orc.z) := by kernel_rfl
theorem wqh_vc (t : TS) (ii : Int → Int) (l i n : Nat) (A M W : Nat → Int) (h1 : decide (Int.ofNat i < Int.ofNat n) = true) (s0 : decide (A i < 0) = false) (s1 : decide (3 ≤ A i) = false) (s2 : decide (M i < 1) = false) (s3 : decide (2 < M i) = false) (s4 : (!decide (W i = 0)) = false) (s5 : (!decide (ii (A i) = Int.ofNat i)) = false) (s6 : decide (M i ≤ t.h ((l * 3 + Int.toNat (A i)) / 3) ((l * 3 + Int.toNat (A i)) % 3)) = false) (s7 : decide (Int.ofNat i = 0) = false) (K : Res → Orc → Prop) : runK Try.prog 1000000 (.code (loopAt Try.prog 23 2) 106 (mkT [(1, .p 0 0), (3, .i .i64 (Int.ofNat l)), (6, svN n A M W), (7, .i .i64 (Int.ofNat i))]) (mkH [some (tsF t)])) (Orc.t (Orc.t (Orc.t (Orc.f (Orc.t (Orc.t (Orc.f (Orc.t (Orc.t (Orc.f (Orc.t (Orc.t (Orc.t (Orc.t (Orc.t (Orc.t (Orc.f (Orc.t (Orc.t (Orc.t (Orc.cal [] (AV.i .i64 (ii (A i))) [] (Orc.t (Orc.t (Orc.f (Orc.f (Orc.s (Orc.s (Orc.t
  (Orc.t (Orc.t (Orc.f (Orc.f (Orc.f (Orc.f (Orc.f (Orc.t (Orc.f (Orc.f (Orc.c Orc.z)))))))))))) Orc.z) Orc.z)))))))))))))))))))))))))) K = (decide (Int.ofNat i < Int.ofNat n) = true ∧ (0 ≤ Int.ofNat i ∧ Int.ofNat i < ↑n) ∧ True ∧ True ∧ (0 ≤ Int.ofNat i ∧ Int.ofNat i < ↑n) ∧ True ∧ True ∧ (!decide (A i < 0)) = true ∧ (!decide (A i < 0)) = true ∧ decide (A i < 0) = false ∧ (!decide (3 ≤ A i)) = true ∧ (!decide (3 ≤ A i)) = true ∧ decide (3 ≤ A i) = false ∧ (!decide (M i < 1)) = true ∧ (!decide (M i < 1)) = true ∧ decide (M i < 1) = false ∧ (!decide (2 < M i)) = true ∧ (!decide (2 < M i)) = true ∧ (!decide (2 < M i)) = true ∧ (0 ≤ Int.ofNat i ∧ Int.ofNat i < ↑n) ∧ (!decide (2 < M i)) = true ∧ True ∧ (!decide (2 < M i)) = true ∧ True ∧ (!decide (2 < M i)) = true ∧ decide (2 < M i) = false ∧ (!!decide (W i = 0)) = true ∧ (!!decide (W i = 0)) = true ∧ (!!decide (W i = 0)) = true ∧ Con
  Try.prog 38 [svN n A M W, AV.i .i64 (A i)] [] (AV.i .i64 (ii (A i))) [] ∧ (!!decide (W i = 0)) = true ∧ (!!decide (W i = 0)) = true ∧ (!decide (W i = 0)) = false ∧ (!decide (ii (A i) = Int.ofNat i)) = false ∧ True ∧ (0 ≤ Int.ofNat l ∧ Int.ofNat l < 19) ∧ (0 ≤ A i ∧ A i < 3) ∧ l * 3 + Int.toNat (A i) < 57 ∧ (!decide (M i ≤ TS.h t ((l * 3 + Int.toNat (A i)) / 3) ((l * 3 + Int.toNat (A i)) % 3))) = true ∧ (!decide (M i ≤ TS.h t ((l * 3 + Int.toNat (A i)) / 3) ((l * 3 + Int.toNat (A i)) % 3))) = true ∧ (!decide (M i ≤ TS.h t ((l * 3 + Int.toNat (A i)) / 3) ((l * 3 + Int.toNat (A i)) % 3))) = true ∧ decide (Int.ofNat i = 0) = false ∧ decide (Int.ofNat i = 0) = false ∧ decide (Int.ofNat i = 0) = false ∧ decide (Int.ofNat i = 0) = false ∧ decide (Int.ofNat i = 0) = false ∧ (!decide (M i ≤ TS.h t ((l * 3 + Int.toNat (A i)) / 3) ((l * 3 + Int.toNat (A i)) % 3))) = true ∧ decide (Int.ofNat i = 0)
  = false ∧ decide (M i ≤ TS.h t ((l * 3 + Int.toNat (A i)) / 3) ((l * 3 + Int.toNat (A i)) % 3)) = false ∧ ((-9223372036854775808) ≤ Int.ofNat i + 1 ∧ Int.ofNat i + (1 : Int) ≤ (9223372036854775807 : Int)) ∧ K (Res.st XO.nrm (z0 (z1 (AV.p 0 0) (z1 (AV.i .i64 (Int.ofNat l)) (z1 (AV.i .i64 (Int.ofNat i + 1)) (z0 (z0 (zl (AV.b (decide (3 ≤ A i)))) (zl (AV.b (decide (M i ≤ TS.h t ((l * 3 + Int.toNat (A i)) / 3) ((l * 3 + Int.toNat (A i)) % 3)))))) (z1 (AV.i .i64 (Int.ofNat i + 1)) (zl (AV.b !decide (W i = 0))) T.e)) (z0 (z0 (zl (AV.b (decide (2 < M i)))) (zl (AV.tup []))) (z1 (AV.pv 3 (qF A M W i)) (zl (AV.i .i64 (M i))) T.e))) (z0 (z0 (z0 (zl (AV.b (decide (M i < 1)))) (zl (AV.tup []))) (z1 (AV.pv 3 fun j => qF A M W i (0 + j)) (zl (AV.i .i64 (ii (A i)))) T.e)) (z0 (z1 (AV.sv 3 n (qF A M W)) (zl (AV.pv 3 (qF A M W i))) T.e) (z1 (AV.b (decide (A i < 0))) (zl (AV.ps 0 44 3 19 l)) T.e)))) (z0
  (z1 (AV.i .i64 (M i)) (z0 (z0 (zl (AV.i .i64 (M i))) (zl (AV.b (decide (Int.ofNat i = 0))))) (z1 (AV.i .i64 (Int.ofNat i)) (zl (AV.sv 3 n (qF A M W))) T.e)) (z0 (z0 (zl (AV.sv 3 n (qF A M W))) (zl (AV.b false))) (z1 (AV.i .i64 (M i)) (zl (AV.i .i64 (A i))) T.e))) (z0 (z0 (z0 (zl (AV.i .i64 (M i))) (zl (AV.tup []))) (z1 (AV.sv 3 n (qF A M W)) (zl (AV.b !decide (ii (A i) = Int.ofNat i))) T.e)) (z0 (z1 (AV.b (decide (Int.ofNat i < Int.ofNat n))) (zl (AV.i .i64 (W i))) T.e) (z1 (AV.i .i64 (A i)) (zl (AV.i .i64 (TS.h t ((l * 3 + Int.toNat (A i)) / 3) ((l * 3 + Int.toNat (A i)) % 3)))) T.e))))) (z0 (z0 (z1 (AV.i .i64 (A i)) (z0 (z0 (zl (AV.b (decide (3 ≤ A i)))) (zl (AV.i .i64 (Int.ofNat i)))) (z1 (AV.sv 3 n (qF A M W)) (zl (AV.b !decide (W i = 0))) T.e)) (z0 (z0 (zl (AV.b (decide (2 < M i)))) (zl (AV.b false))) (z1 (AV.pv 2 fun j => qF A M W i (1 + j)) (zl (AV.i .i64 (Int.ofNat l))) T.e)))
  (z0 (z0 (z0 (zl (AV.b (decide (M i < 1)))) (zl (AV.tup []))) (z1 (AV.i .i64 (A i)) (zl (AV.i .i64 (Int.ofNat i))) T.e)) (z0 (z1 (AV.i .i64 (Int.ofNat n)) (zl (AV.pv 1 fun j => qF A M W i (2 + j))) T.e) (z1 (AV.b (decide (A i < 0))) (zl (AV.ps 0 44 1 57 (l * 3 + Int.toNat (A i)))) T.e)))) (z1 (AV.sv 3 n (qF A M W)) (z0 (z0 (z0 (zl (AV.b (decide (M i < 1)))) (zl (AV.b (decide (Int.ofNat i = 0))))) (z1 (AV.pv 3 (qF A M W i)) (zl (AV.i .i64 (A i))) T.e)) (z0 (z1 (AV.i .i64 (Int.ofNat i)) (zl (AV.i .i64 (Int.ofNat i))) T.e) (z1 (AV.i .i64 (A i)) (zl (AV.p 0 44)) T.e))) (z0 (z0 (z0 (zl (AV.b (decide (2 < M i)))) (zl (AV.tup []))) (z1 (AV.i .i64 (Int.ofNat i)) (zl (AV.b !decide (ii (A i) = Int.ofNat i))) T.e)) (z0 (z1 (AV.i .i64 (Int.ofNat i)) (zl (AV.b !decide (W i = 0))) T.e) (z1 (AV.b (decide (3 ≤ A i))) (zl (AV.b (decide (M i ≤ TS.h t ((l * 3 + Int.toNat (A i)) / 3) ((l * 3 + Int.toNat (A
  i)) % 3))))) T.e)))))) ⟨zl (tsF t), 1, []⟩) Orc.z) := by kernel_rfl
theorem vRF_vc (t : TS) (l : Nat) (h1 : decide (Int.ofNat l < 19) = true) (K : Res → Orc → Prop) : runK Try.prog 1000000 (.code (loopAt Try.prog 23 0) 106 (mkT [(1, .p 0 0), (3, .i .i64 (Int.ofNat l))]) (mkH [some (tsF t)])) (Orc.t (Orc.lop [0] [1, 3, 4] 1 XO.ret [(2, AV.b false)] [some (tsF t)] Orc.z)) K = (decide (Int.ofNat l < 19) = true ∧ LDoes Try.prog (loopAt Try.prog 23 1) 106 1 (mkT [(1, AV.p 0 0), (3, AV.i .i64 (Int.ofNat l)), (4, AV.i .i64 0)]) [some (tsF t)] XO.ret (mkT [(2, AV.b false)]) [some (tsF t)] ∧ K (Res.st XO.ret (z0 T.e (zl (AV.b false))) ⟨zl (tsF t), 1, [0]⟩) Orc.z) := by kernel_rfl
theorem vRG_vc (t : TS) (l : Nat) (h1 : decide (Int.ofNat l < 19) = true) (K : Res → Orc → Prop) : runK Try.prog 1000000 (.code (loopAt Try.prog 23 0) 106 (mkT [(1, .p 0 0), (3, .i .i64 (Int.ofNat l))]) (mkH [some (tsF t)])) (Orc.t (Orc.lop [0] [1, 3, 4] 1 (XO.exit 2) [(1, AV.p 0 0), (3, AV.i .i64 (Int.ofNat l))] [some (tsF t)] (Orc.s (Orc.lop [0] [1, 3, 6, 7] 1 XO.ret [(2, AV.b false)] [some (tsF t)] Orc.z) Orc.z))) K = (decide (Int.ofNat l < 19) = true ∧ LDoes Try.prog (loopAt Try.prog 23 1) 106 1 (mkT [(1, AV.p 0 0), (3, AV.i .i64 (Int.ofNat l)), (4, AV.i .i64 0)]) [some (tsF t)] (XO.exit 2) (mkT [(1, AV.p 0 0), (3, AV.i .i64 (Int.ofNat l))]) [some (tsF t)] ∧ True ∧ (0 ≤ Int.ofNat l ∧ Int.ofNat l < 19) ∧ l < 19 ∧ LDoes Try.prog (loopAt Try.prog 23 2) 106 1 (mkT [(1, AV.p 0 0), (3, AV.i .i64 (Int.ofNat l)), (6, svN (TS.n t l) (TS.A t (Int.toNat (Int.ofNat l))) (TS.M t (Int.toNat
  (Int.ofNat l))) (TS.W t (Int.toNat (Int.ofNat l)))), (7, AV.i .i64 0)]) [some (tsF t)] XO.ret (mkT [(2, AV.b false)]) [some (tsF t)] ∧ K (Res.st XO.ret (z0 T.e (zl (AV.b false))) ⟨zl (tsF t), 1, [0, 0]⟩) Orc.z) := by kernel_rfl
theorem v2_vc (t : TS) (V : AV) : runK Try.prog 1000000 (.call 23 [tsV t] (mkH [])) (Orc.c (Orc.lop [0] [1, 3] 1 XO.ret [(2, AV.b false)] [some (tsF t)] Orc.z)) (fun r _ => rvIs V r) = (LDoes Try.prog (loopAt Try.prog 23 0) 106 1 (mkT [(1, AV.p 0 0), (3, AV.i .i64 0)]) [some (tsO t)] XO.ret (mkT [(2, AV.b false)]) [some (tsF t)] ∧ (AV.b false) = V) := by kernel_rfl
theorem ntt {b : Bool} (h : b = false) : (!b) = true := by rw [h]; rfl
theorem ntf {b : Bool} (h : b = true) : (!b) = false := by rw [h]; rfl
theorem first_of (p : Nat → Bool) : ∀ n, (∃ i, i < n ∧ p i = true) → ∃ i, i < n ∧ p i = true ∧ ∀ j, j < i → p j = false
  | 0, ⟨i, h, _⟩ => absurd h (by omega)
  | n + 1, ⟨i, h, hp⟩ => by
    by_cases c : ∃ i, i < n ∧ p i = true
    · obtain ⟨i, a, b, d⟩ := first_of p n c
      exact ⟨i, by omega, b, d⟩
    · refine ⟨i, h, hp, fun j hj => ?_⟩
      cases e : p j with
      | false => rfl
      | true => exact absurd ⟨j, by omega, e⟩ c
def badJ (s : LS) (l j : Nat) : Bool := decide (s.ts.h ((l * 3 + j) / 3) ((l * 3 + j) % 3) < 0) || (decide (2 < s.ts.h ((l * 3 + j) / 3) ((l * 3 + j) % 3)) || !canB (s.row l).h (Int.ofNat j) (s.ts.h ((l * 3 + j) / 3) ((l * 3 + j) % 3)))
def badQ (s : LS) (l i : Nat) : Bool := decide (qA (s.row l).q i < 0) || (decide (3 ≤ qA (s.row l).q i) || (decide (qM (s.row l).q i < 1) || (decide (2 < qM (s.row l).q i) || ((!decide (qW (s.row l).q i = 0)) || ((!decide (inI (s.row l).q.length (qA (s.row l).q) (qA (s.row l).q i) = Int.ofNat i)) || (decide (qM (s.row l).q i ≤ s.ts.h ((l * 3 + Int.toNat (qA (s.row l).q i)) / 3) ((l * 3 + Int.toNat (qA (s.row l).q i)) % 3)) || (decide (Int.ofNat i = 0) && canB (s.row l).h (qA (s.row l).q i) (qM (s.row l).q i))))))))
theorem vsF_lp (s : LS) (l : Nat) (hl : l < 19) (j0 : Nat) (hj0 : j0 < 3) (bad : badJ s l j0 = true) (good : ∀ j, j < j0 → badJ s l j = false) : LDoes Try.prog (loopAt Try.prog 23 1) 106 1 (mkT [(1, .p 0 0), (3, .i .i64 (Int.ofNat l)), (4, .i .i64 0)]) [some (tsF s.ts)] .ret (mkT [(2, .b false)]) [some (tsF s.ts)] := by
  refine loop_ind (D := Nat) (fun j : Nat => ([(1, .p 0 0), (3, .i .i64 (Int.ofNat l)), (4, .i .i64 (Int.ofNat j))], [some (tsF s.ts)])) (fun j => j0 - j) (fun j => j ≤ j0) (fun j hj => ?_) 0 (Nat.zero_le _)
  refine ⟨Nat.le_refl _, ?_⟩
  have h1 : decide (Int.ofNat j < 3) = true := by simp <;> omega
  have bl : (0 : Int) ≤ Int.ofNat l ∧ Int.ofNat l < 19 := ⟨by simp, by simp <;> omega⟩
  have bi : (0 : Int) ≤ Int.ofNat j ∧ Int.ofNat j < 3 := ⟨by simp, by simp <;> omega⟩
  have ov : (-9223372036854775808 : Int) ≤ Int.ofNat j + (1 : Int) ∧ Int.ofNat j + (1 : Int) ≤ (9223372036854775807 : Int) := ⟨by simp <;> omega, by simp <;> omega⟩
  have cn := can_con s l hl (Int.ofNat j) (s.ts.h ((l * 3 + j) / 3) ((l * 3 + j) % 3))
  by_cases e : j = j0
  · subst e
    unfold badJ at bad
    cases ha : decide (s.ts.h ((l * 3 + j) / 3) ((l * 3 + j) % 3) < 0) with
    | true => exact ⟨_, _, (wsa_vc s.ts l j h1 ha _).mpr ⟨h1, trivial, bl, bi, by omega, (ntf ha), (ntf ha), ha, .inr ⟨[0], [], _, _, rfl, by simp, st_k [0] (by kernel_rfl)⟩⟩⟩
    | false =>
      cases hb : decide (2 < s.ts.h ((l * 3 + j) / 3) ((l * 3 + j) % 3)) with
      | true => exact ⟨_, _, (wsb_vc s.ts l j h1 ha hb _).mpr ⟨h1, trivial, bl, bi, by omega, (ntt ha), (ntt ha), ha, (ntf hb), (ntf hb), (ntf hb), (ntf hb), (ntf hb), (ntf hb), hb, .inr ⟨[0], [], _, _, rfl, by simp, st_k [0] (by kernel_rfl)⟩⟩⟩
      | false =>
        rw [ha, hb] at bad
        have hc : (!canB (s.row l).h (Int.ofNat j) (s.ts.h ((l * 3 + j) / 3) ((l * 3 + j) % 3))) = true := bad
        exact ⟨_, _, (wsc_vc s.ts (fun a m => canB (s.row l).h a m) l j h1 ha hb hc _).mpr ⟨h1, trivial, bl, bi, by omega, (ntt ha), (ntt ha), ha, (ntt hb), trivial, (ntt hb), (ntt hb), (ntt hb), (ntt hb), cn, (ntt hb), trivial, hb, hc, .inr ⟨[0], [], _, _, rfl, by simp, st_k [0] (by kernel_rfl)⟩⟩⟩
  · have gd := good j (by omega)
    unfold badJ at gd
    rw [Bool.or_eq_false_iff, Bool.or_eq_false_iff] at gd
    obtain ⟨ha, hb, hc⟩ := gd
    exact ⟨_, _, (wsg_vc s.ts (fun a m => canB (s.row l).h a m) l j h1 ha hb hc _).mpr ⟨h1, trivial, bl, bi, by omega, (ntt ha), (ntt ha), ha, (ntt hb), trivial, (ntt hb), (ntt hb), (ntt hb), (ntt hb), cn, (ntt hb), trivial, hb, hc, ov, .inl ⟨j + 1, [0], [], _, _, by omega, by show j0 - (j + 1) < j0 - j; omega, rfl, st_k [0] (by kernel_rfl)⟩⟩⟩
theorem vqF_lp (s : LS) (l : Nat) (hl : l < 19) (hn : (s.row l).q.length ≤ 1152921504606846976) (i0 : Nat) (hi0 : i0 < (s.row l).q.length) (bad : badQ s l i0 = true) (good : ∀ i, i < i0 → badQ s l i = false) : LDoes Try.prog (loopAt Try.prog 23 2) 106 1 (mkT [(1, .p 0 0), (3, .i .i64 (Int.ofNat l)), (6, svQ (s.row l).q), (7, .i .i64 0)]) [some (tsF s.ts)] .ret (mkT [(2, .b false)]) [some (tsF s.ts)] := by
  refine loop_ind (D := Nat) (fun i : Nat => ([(1, .p 0 0), (3, .i .i64 (Int.ofNat l)), (6, svQ (s.row l).q), (7, .i .i64 (Int.ofNat i))], [some (tsF s.ts)])) (fun i => i0 - i) (fun i => i ≤ i0) (fun i hi => ?_) 0 (Nat.zero_le _)
  refine ⟨Nat.le_refl _, ?_⟩
  have h1 : decide (Int.ofNat i < Int.ofNat (s.row l).q.length) = true := by simp <;> omega
  have bl : (0 : Int) ≤ Int.ofNat l ∧ Int.ofNat l < 19 := ⟨by simp, by simp <;> omega⟩
  have bi : (0 : Int) ≤ Int.ofNat i ∧ Int.ofNat i < ((s.row l).q.length : Int) := ⟨by simp, by simp <;> omega⟩
  have ov : (-9223372036854775808 : Int) ≤ Int.ofNat i + (1 : Int) ∧ Int.ofNat i + (1 : Int) ≤ (9223372036854775807 : Int) := ⟨by simp <;> omega, by simp <;> omega⟩
  have ci := in_con (s.row l).q.length (qA (s.row l).q) (qM (s.row l).q) (qW (s.row l).q) (qA (s.row l).q i) hn
  have cn := can_con s l hl (qA (s.row l).q i) (qM (s.row l).q i)
  by_cases e : i = i0
  · subst e
    unfold badQ at bad
    cases s0 : decide (qA (s.row l).q i < 0) with
    | true => exact ⟨_, _, (wq0_vc s.ts l i _ (qA (s.row l).q) (qM (s.row l).q) (qW (s.row l).q) h1 s0 _).mpr ⟨h1, bi, trivial, trivial, bi, trivial, trivial, (ntf s0), (ntf s0), s0, .inr ⟨[0], [], _, _, rfl, by simp, st_k [0] (by kernel_rfl)⟩⟩⟩
    | false =>
      cases s1 : decide (3 ≤ qA (s.row l).q i) with
      | true => exact ⟨_, _, (wq1_vc s.ts l i _ (qA (s.row l).q) (qM (s.row l).q) (qW (s.row l).q) h1 s0 s1 _).mpr ⟨h1, bi, trivial, trivial, bi, trivial, trivial, (ntt s0), (ntt s0), s0, (ntf s1), (ntf s1), s1, .inr ⟨[0], [], _, _, rfl, by simp, st_k [0] (by kernel_rfl)⟩⟩⟩
      | false =>
        have bA : (0 : Int) ≤ qA (s.row l).q i ∧ qA (s.row l).q i < 3 := ⟨by have := of_decide_eq_false s0; omega, by have := of_decide_eq_false s1; omega⟩
        cases s2 : decide (qM (s.row l).q i < 1) with
        | true => exact ⟨_, _, (wq2_vc s.ts l i _ (qA (s.row l).q) (qM (s.row l).q) (qW (s.row l).q) h1 s0 s1 s2 _).mpr ⟨h1, bi, trivial, trivial, bi, trivial, trivial, (ntt s0), (ntt s0), s0, (ntt s1), (ntt s1), s1, (ntf s2), (ntf s2), s2, .inr ⟨[0], [], _, _, rfl, by simp, st_k [0] (by kernel_rfl)⟩⟩⟩
        | false =>
          cases s3 : decide (2 < qM (s.row l).q i) with
          | true => exact ⟨_, _, (wq3_vc s.ts l i _ (qA (s.row l).q) (qM (s.row l).q) (qW (s.row l).q) h1 s0 s1 s2 s3 _).mpr ⟨h1, bi, trivial, trivial, bi, trivial, trivial, (ntt s0), (ntt s0), s0, (ntt s1), (ntt s1), s1, (ntt s2), (ntt s2), s2, (ntf s3), (ntf s3), (ntf s3), (ntf s3), (ntf s3), (ntf s3), s3, .inr ⟨[0], [], _, _, rfl, by simp, st_k [0] (by kernel_rfl)⟩⟩⟩
          | false =>
            cases s4 : (!decide (qW (s.row l).q i = 0)) with
            | true => exact ⟨_, _, (wq4_vc s.ts l i _ (qA (s.row l).q) (qM (s.row l).q) (qW (s.row l).q) h1 s0 s1 s2 s3 s4 _).mpr ⟨h1, bi, trivial, trivial, bi, trivial, trivial, (ntt s0), (ntt s0), s0, (ntt s1), (ntt s1), s1, (ntt s2), (ntt s2), s2, (ntt s3), (ntt s3), (ntt s3), bi, (ntt s3), trivial, (ntt s3), trivial, (ntt s3), s3, (ntf s4), (ntf s4), (ntf s4), (ntf s4), (ntf s4), s4, .inr ⟨[0], [], _, _, rfl, by simp, st_k [0] (by kernel_rfl)⟩⟩⟩
            | false =>
              cases s5 : (!decide (inI (s.row l).q.length (qA (s.row l).q) (qA (s.row l).q i) = Int.ofNat i)) with
              | true => exact ⟨_, _, (wq5_vc s.ts (fun k => inI (s.row l).q.length (qA (s.row l).q) k) l i _ (qA (s.row l).q) (qM (s.row l).q) (qW (s.row l).q) h1 s0 s1 s2 s3 s4 s5 _).mpr ⟨h1, bi, trivial, trivial, bi, trivial, trivial, (ntt s0), (ntt s0), s0, (ntt s1), (ntt s1), s1, (ntt s2), (ntt s2), s2, (ntt s3), (ntt s3), (ntt s3), bi, (ntt s3), trivial, (ntt s3), trivial, (ntt s3), s3, (ntt s4), (ntt s4), (ntt s4), ci, (ntt s4), (ntt s4), s4, s5, .inr ⟨[0], [], _, _, rfl, by simp, st_k [0] (by kernel_rfl)⟩⟩⟩
              | false =>
                cases s6 : decide (qM (s.row l).q i ≤ s.ts.h ((l * 3 + Int.toNat (qA (s.row l).q i)) / 3) ((l * 3 + Int.toNat (qA (s.row l).q i)) % 3)) with
                | true => exact ⟨_, _, (wq6_vc s.ts (fun k => inI (s.row l).q.length (qA (s.row l).q) k) l i _ (qA (s.row l).q) (qM (s.row l).q) (qW (s.row l).q) h1 s0 s1 s2 s3 s4 s5 s6 _).mpr ⟨h1, bi, trivial, trivial, bi, trivial, trivial, (ntt s0), (ntt s0), s0, (ntt s1), (ntt s1), s1, (ntt s2), (ntt s2), s2, (ntt s3), (ntt s3), (ntt s3), bi, (ntt s3), trivial, (ntt s3), trivial, (ntt s3), s3, (ntt s4), (ntt s4), (ntt s4), ci, (ntt s4), (ntt s4), s4, s5, trivial, bl, bA, by omega, (ntf s6), (ntf s6), (ntf s6), (ntf s6), s6, .inr ⟨[0], [], _, _, rfl, by simp, st_k [0] (by kernel_rfl)⟩⟩⟩
                | false =>
                  rw [s0, s1, s2, s3, s4, s5, s6] at bad
                  have bad' : (decide (Int.ofNat i = 0) && canB (s.row l).h (qA (s.row l).q i) (qM (s.row l).q i)) = true := bad
                  rw [Bool.and_eq_true] at bad'
                  obtain ⟨s7, s8⟩ := bad'
                  exact ⟨_, _, (wq7_vc s.ts (fun a m => canB (s.row l).h a m) (fun k => inI (s.row l).q.length (qA (s.row l).q) k) l i _ (qA (s.row l).q) (qM (s.row l).q) (qW (s.row l).q) h1 s0 s1 s2 s3 s4 s5 s6 s7 s8 _).mpr ⟨h1, bi, trivial, trivial, bi, trivial, trivial, (ntt s0), (ntt s0), s0, (ntt s1), (ntt s1), s1, (ntt s2), (ntt s2), s2, (ntt s3), (ntt s3), (ntt s3), bi, (ntt s3), trivial, (ntt s3), trivial, (ntt s3), s3, (ntt s4), (ntt s4), (ntt s4), ci, (ntt s4), (ntt s4), s4, s5, trivial, bl, bA, by omega, (ntt s6), (ntt s6), (ntt s6), s7, trivial, s7, s7, s7, s7, cn, (ntt s6), s7, s6, s8, .inr ⟨[0], [], _, _, rfl, by simp, st_k [0] (by kernel_rfl)⟩⟩⟩
  · have gd := good i (by omega)
    unfold badQ at gd
    simp only [Bool.or_eq_false_iff] at gd
    obtain ⟨s0, s1, s2, s3, s4, s5, s6, gd⟩ := gd
    have bA : (0 : Int) ≤ qA (s.row l).q i ∧ qA (s.row l).q i < 3 := ⟨by have := of_decide_eq_false s0; omega, by have := of_decide_eq_false s1; omega⟩
    cases s7 : decide (Int.ofNat i = 0) with
    | false => exact ⟨_, _, (wqh_vc s.ts (fun k => inI (s.row l).q.length (qA (s.row l).q) k) l i _ (qA (s.row l).q) (qM (s.row l).q) (qW (s.row l).q) h1 s0 s1 s2 s3 s4 s5 s6 s7 _).mpr ⟨h1, bi, trivial, trivial, bi, trivial, trivial, (ntt s0), (ntt s0), s0, (ntt s1), (ntt s1), s1, (ntt s2), (ntt s2), s2, (ntt s3), (ntt s3), (ntt s3), bi, (ntt s3), trivial, (ntt s3), trivial, (ntt s3), s3, (ntt s4), (ntt s4), (ntt s4), ci, (ntt s4), (ntt s4), s4, s5, trivial, bl, bA, by omega, (ntt s6), (ntt s6), (ntt s6), s7, s7, s7, s7, s7, (ntt s6), s7, s6, ov, .inl ⟨i + 1, [0], [], _, _, by omega, by show i0 - (i + 1) < i0 - i; omega, rfl, st_k [0] (by kernel_rfl)⟩⟩⟩
    | true =>
      rw [s7] at gd
      have s8 : canB (s.row l).h (qA (s.row l).q i) (qM (s.row l).q i) = false := gd
      exact ⟨_, _, (wqg_vc s.ts (fun a m => canB (s.row l).h a m) (fun k => inI (s.row l).q.length (qA (s.row l).q) k) l i _ (qA (s.row l).q) (qM (s.row l).q) (qW (s.row l).q) h1 s0 s1 s2 s3 s4 s5 s6 s7 s8 _).mpr ⟨h1, bi, trivial, trivial, bi, trivial, trivial, (ntt s0), (ntt s0), s0, (ntt s1), (ntt s1), s1, (ntt s2), (ntt s2), s2, (ntt s3), (ntt s3), (ntt s3), bi, (ntt s3), trivial, (ntt s3), trivial, (ntt s3), s3, (ntt s4), (ntt s4), (ntt s4), ci, (ntt s4), (ntt s4), s4, s5, trivial, bl, bA, by omega, (ntt s6), (ntt s6), (ntt s6), s7, trivial, s7, s7, s7, s7, cn, (ntt s6), s7, s6, s8, ov, .inl ⟨i + 1, [0], [], _, _, by omega, by show i0 - (i + 1) < i0 - i; omega, rfl, st_k [0] (by kernel_rfl)⟩⟩⟩
theorem hh_eq (s : LS) (l : Nat) {j : Nat} (hj : j < 3) : s.ts.h ((l * 3 + j) / 3) ((l * 3 + j) % 3) = (s.row l).h j := by
  rw [show (l * 3 + j) / 3 = l by omega, show (l * 3 + j) % 3 = j by omega]; rfl
theorem hm_of (s : LS) (l : Nat) (h : ∀ j, j < 3 → badJ s l j = false) : hmB (s.row l).h = true := by
  have g : ∀ j, j < 3 → (0 ≤ (s.row l).h j ∧ (s.row l).h j ≤ 2) ∧ canB (s.row l).h (Int.ofNat j) ((s.row l).h j) = true := by
    intro j hj
    have := h j hj
    unfold badJ at this
    rw [hh_eq s l hj] at this
    simp only [Bool.or_eq_false_iff] at this
    obtain ⟨a, b, c⟩ := this
    refine ⟨⟨by have := of_decide_eq_false a; omega, by have := of_decide_eq_false b; omega⟩, ?_⟩
    cases e : canB (s.row l).h (Int.ofNat j) ((s.row l).h j) with
    | true => rfl
    | false => rw [e] at c; exact Bool.noConfusion c
  obtain ⟨⟨a1, a2⟩, a3⟩ := g 0 (by decide)
  obtain ⟨⟨b1, b2⟩, b3⟩ := g 1 (by decide)
  obtain ⟨⟨c1, c2⟩, c3⟩ := g 2 (by decide)
  have im : ∀ k : Int, 0 ≤ k → k ≤ 2 → isModeB k = true := by
    intro k h1 h2
    unfold isModeB isWishB
    simp
    omega
  unfold canB at a3 b3 c3
  simp at a3 b3 c3
  rw [hm3_eq]
  unfold hm3
  rw [im _ a1 a2, im _ b1 b2, im _ c1 c2, b3.1, c3.1, c3.2]
  rfl
theorem hx_eq (s : LS) (l : Nat) {a : Int} (h : 0 ≤ a ∧ a < 3) : s.ts.h ((l * 3 + Int.toNat a) / 3) ((l * 3 + Int.toNat a) % 3) = hx (s.row l).h a := by
  rw [show (l * 3 + Int.toNat a) / 3 = l by omega, show (l * 3 + Int.toNat a) % 3 = Int.toNat a by omega]
  show (s.row l).h _ = _
  rcases three h with c | c | c <;> rw [c] <;> rfl
theorem qm_of {h : Nat → Int} {n : Nat} {A M W : Nat → Int} : ∀ (m i : Nat), (∀ j, i ≤ j → j < i + m → mayWaitB h (A j) (M j) (W j) = true ∧ fi n A (A j) = j) → qmB h n A M W m i = true
  | 0, _, _ => rfl
  | m + 1, i, g => by
    have g0 := g i (Nat.le_refl _) (by omega)
    show (mayWaitB h (A i) (M i) (W i) && (decide (fi n A (A i) = i) && qmB h n A M W m (i + 1))) = true
    rw [g0.1, decide_eq_true g0.2, qm_of m (i + 1) fun j a b => g j (by omega) (by omega)]
    rfl
theorem may_of (s : LS) (l : Nat) (h : ∀ j, j < 3 → badJ s l j = false) (q : ∀ i, i < (s.row l).q.length → badQ s l i = false) : mayB (s.row l) = true := by
  have key : ∀ i, i < (s.row l).q.length → (mayWaitB (s.row l).h (qA (s.row l).q i) (qM (s.row l).q i) (qW (s.row l).q i) = true ∧ fi (s.row l).q.length (qA (s.row l).q) (qA (s.row l).q i) = i) ∧ (i = 0 → canB (s.row l).h (qA (s.row l).q i) (qM (s.row l).q i) = false) := by
    intro i hi
    have gd := q i hi
    unfold badQ at gd
    simp only [Bool.or_eq_false_iff] at gd
    obtain ⟨s0, s1, s2, s3, s4, s5, s6, s7⟩ := gd
    have k0 := of_decide_eq_false s0
    have k1 := of_decide_eq_false s1
    have k2 := of_decide_eq_false s2
    have k3 := of_decide_eq_false s3
    have k4 : qW (s.row l).q i = 0 := by simpa using s4
    have k5 : inI (s.row l).q.length (qA (s.row l).q) (qA (s.row l).q i) = Int.ofNat i := by simpa using s5
    have k6 := of_decide_eq_false s6
    have bA : 0 ≤ qA (s.row l).q i ∧ qA (s.row l).q i < 3 := ⟨by omega, by omega⟩
    rw [hx_eq s l bA] at k6
    refine ⟨⟨?_, ?_⟩, ?_⟩
    · unfold mayWaitB isServerB isWishB
      simp
      omega
    · unfold inI at k5
      split at k5
      · exact Int.ofNat.inj k5
      · exact absurd k5 (by show ¬ ((-1 : Int) = Int.ofNat i); simp)
    · intro e
      rw [e] at s7 ⊢
      simpa using s7
  unfold mayB mayBeB
  rw [hm_of s l h, qm_of _ _ fun j _ b => (key j (by omega)).1]
  unfold fcB
  by_cases e : (s.row l).q.length = 0
  · simp [e]
  · have := (key 0 (by omega)).2 rfl
    rw [this]; simp
theorem va_of (s : LS) : ∀ m l, (∀ j, l ≤ j → j < l + m → mayB (s.row j) = true) → vaN s m l = true
  | 0, _, _ => rfl
  | m + 1, l, g => by
    show (mayB (s.row l) && vaN s m (l + 1)) = true
    rw [g l (Nat.le_refl _) (by omega), va_of s m (l + 1) fun j a b => g j (by omega) (by omega)]
    rfl
theorem rvF_lp (s : LS) (ok : s.ok) (v : vaS s = false) : LDoes Try.prog (loopAt Try.prog 23 0) 106 1 (mkT [(1, .p 0 0), (3, .i .i64 0)]) [some (tsO s.ts)] .ret (mkT [(2, .b false)]) [some (tsF s.ts)] := by
  obtain ⟨l0, hl0, bad, good⟩ := first_of (fun l => !mayB (s.row l)) 19 (by
    by_cases c : ∃ i, i < 19 ∧ (!mayB (s.row i)) = true
    · exact c
    · have : vaS s = true := va_of s 19 0 fun j _ h => by
        cases e : mayB (s.row j) with
        | true => rfl
        | false => exact absurd ⟨j, by omega, by rw [e]; rfl⟩ c
      rw [v] at this; exact Bool.noConfusion this)
  have key := loop_ind (P := Try.prog) (c := loopAt Try.prog 23 0) (n := 106) (b := 1) (x := .ret) (l' := [(2, .b false)]) (objs' := [some (tsF s.ts)]) (D := Nat) (fun l : Nat => ([(1, .p 0 0), (3, .i .i64 (Int.ofNat l))], [some (tsF s.ts)])) (fun l => l0 - l) (fun l => l ≤ l0) (fun l hl => ?_) 0 (Nat.zero_le _)
  · exact key.ovl (objs0 := [some (tsO s.ts)]) ⟨OV.trans (tsZ_ov [] s.ts) (tsS_F s.ts), trivial⟩
  refine ⟨Nat.le_refl _, ?_⟩
  have h1 : decide (Int.ofNat l < 19) = true := by simp <;> omega
  have hn : (s.row l).q.length ≤ 1152921504606846976 := by have := ok.q l; have e : s.ts.n l = (s.row l).q.length := rfl; omega
  by_cases e : l = l0
  · subst e
    by_cases c : ∃ j, j < 3 ∧ badJ s l j = true
    · obtain ⟨j0, a, b, d⟩ := first_of (badJ s l) 3 c
      exact ⟨_, _, (vRF_vc s.ts l h1 _).mpr ⟨h1, vsF_lp s l (by omega) j0 a b d, .inr ⟨[0], [], _, _, rfl, by simp, st_k [0] (by kernel_rfl)⟩⟩⟩
    have hJ : ∀ j, j < 3 → badJ s l j = false := fun j hj => by
      cases e : badJ s l j with
      | false => rfl
      | true => exact absurd ⟨j, hj, e⟩ c
    by_cases c2 : ∃ i, i < (s.row l).q.length ∧ badQ s l i = true
    · obtain ⟨i0, a, b, d⟩ := first_of (badQ s l) _ c2
      exact ⟨_, _, (vRG_vc s.ts l h1 _).mpr ⟨h1, vsT_lp s l (by omega) (hm_of s l hJ), trivial, ⟨by simp, by simp <;> omega⟩, by omega, vqF_lp s l (by omega) hn i0 a b d, .inr ⟨[0], [], _, _, rfl, by simp, st_k [0] (by kernel_rfl)⟩⟩⟩
    · have : mayB (s.row l) = true := may_of s l hJ fun i hi => by
        cases e : badQ s l i with
        | false => rfl
        | true => exact absurd ⟨i, hi, e⟩ c2
      rw [this] at bad; exact Bool.noConfusion bad
  · have mb : mayB (s.row l) = true := by
      have := good l (by omega)
      simpa using this
    have rk := mayB_ok mb
    exact ⟨_, _, (vRT_vc s.ts l h1 _).mpr ⟨h1, vsT_lp s l (by omega) rk.hm, trivial, ⟨by simp, by simp <;> omega⟩, by omega, vqT_lp s l (by omega) rk hn, ⟨by simp <;> omega, by simp <;> omega⟩, .inl ⟨l + 1, [0], [], _, _, by omega, by show l0 - (l + 1) < l0 - l; omega, rfl, st_k [0] (by kernel_rfl)⟩⟩⟩
theorem rvalidA_con (s : LS) (ok : s.ok) : Con Try.prog 23 [lsV s] [] (.b (vaS s)) [] := by
  cases v : vaS s with
  | true => exact rvalid_con s ok v
  | false => exact con_pureX (v2_vc s.ts _) rfl ⟨rvF_lp s ok v, rfl⟩
theorem rlegalN_con (s : LS) (ok : s.ok) (v : vaS s = false) (l k : Int) : Con Try.prog 37 [lsV s, .i .i64 l, .i .i64 k] [] (.b false) [] := by
  have h := rvalidA_con s ok
  rw [v] at h
  exact con_pureX (lg_vc s.ts false l k _) rfl ⟨h, fun a => Bool.noConfusion a, fun _ => ⟨rfl, rfl, rfl⟩⟩
theorem raskA_con (s : LS) (ok : s.ok) (l k m : Int) : Con Try.prog 16 [lsV s, .i .i64 l, .i .i64 k, .i .i64 m] [] (.tup [lsV (askS s l k m), .i .i64 (askE s l k m)]) [] := by
  cases v : vaS s with
  | true => exact rask_con s ok v l k m
  | false =>
    have e : okA s l k m = false := by unfold okA; rw [v]; simp
    unfold askS askE
    rw [e]
    have h0 : Con Try.prog 16 [lsV s, .i .i64 l, .i .i64 k, .i .i64 m] [] (.tup [.agg zL, .i .i64 2]) [] := con_pureX (asE_vc s.ts false l k m rfl _) rfl ⟨rlegalN_con s ok v l k, trivial, rfl, rfl, rfl, rfl⟩
    exact h0.post (.tup ⟨.agg zL_vw, .refl _, trivial⟩) trivial
theorem rfreeA_con (s : LS) (ok : s.ok) (l k : Int) : Con Try.prog 17 [lsV s, .i .i64 l, .i .i64 k] [] (.tup [lsV (freeS s l k), .i .i64 (freeE s l k)]) [] := by
  cases v : vaS s with
  | true => exact rfree_con s ok v l k
  | false =>
    have e : okF s l k = false := by unfold okF; rw [v]; simp
    unfold freeS freeE
    rw [e]
    have h0 : Con Try.prog 17 [lsV s, .i .i64 l, .i .i64 k] [] (.tup [.agg zL, .i .i64 2]) [] := con_pureX (fr0_vc s.ts false l k rfl _) rfl ⟨rlegalN_con s ok v l k, trivial, rfl, rfl⟩
    exact h0.post (.tup ⟨.agg zL_vw, .refl _, trivial⟩) trivial
theorem rholdsA_con (s : LS) (ok : s.ok) (k : Int) : Con Try.prog 22 [lsV s, .i .i64 k] [] (svQ (hldS s k)) [] := by
  cases v : vaS s with
  | true => exact rholds_con s ok v k
  | false =>
    unfold hldS
    rw [v, Bool.and_false]
    have h0 : Con Try.prog 22 [lsV s, .i .i64 k] [] .l0 [] := con_pureX (hd0_vc s.ts false k rfl _) rfl ⟨rlegalN_con s ok v 0 k, trivial, rfl, rfl⟩
    exact h0.post (VW.nil _ _) trivial
theorem rdropA_con (s : LS) (ok : s.ok) (k : Int) : Con Try.prog 20 [lsV s, .i .i64 k] [] (lsV (dropS s k)) [] := by
  cases v : vaS s with
  | true => exact rdrop_con s ok v k
  | false =>
    unfold dropS
    rw [v, Bool.and_false]
    exact con_pureX (dr0_vc s.ts false k rfl _) (by kernel_rfl) ⟨rlegalN_con s ok v 0 k, trivial, rfl, rfl⟩
theorem c4_vc (t : TS) (a1 : TS) (f1 : TS) (d1 : TS) (ea : Int) (ef : Int) (vb : Bool) (gb : Bool) (hn : Nat) (hA : Nat → Int) (hM : Nat → Int) (hW : Nat → Int) (kk l k m : Int) (V : AV) : runK Try.prog 1000000 (.call 4 [tsV t, .agg [.i .i64 kk, .i .i64 l, .i .i64 k, .i .i64 m]] (mkH [])) (Orc.c (Orc.cal [] (AV.b true) [] (Orc.c (Orc.cal [] (tsV t) [] (Orc.cal [] (AV.tup [tsV a1, AV.i .i64 ea]) [] (Orc.cal [] (AV.tup [tsV a1, AV.i .i64 ea]) [] (Orc.cal [] (tsV t) [] (Orc.cal [] (AV.tup [tsV f1, AV.i .i64 ef]) [] (Orc.cal [] (AV.tup [tsV f1, AV.i .i64 ef]) [] (Orc.cal [] (AV.b true) [] (oc 4 (Orc.t (Orc.t (Orc.t (Orc.cal [] (AV.b true) [] (Orc.t (oc 4 (Orc.t (Orc.t (Orc.cal [] (tsV t) [] (Orc.t (Orc.t (Orc.t (Orc.cal [] (tsV d1) [] (Orc.t (Orc.t (Orc.t (Orc.t (Orc.cal [] (tsV d1) [] (Orc.t (Orc.cal [] (AV.b true) [] (Orc.t (oc 2 (Orc.cal [] (tsV t) [] (oc 3 (Orc.cal [] (svN hn hA hM hW)
  [] (oc 4 (Orc.cal [] (svN hn hA hM hW) [] (Orc.c (Orc.cal [] (AV.b true) [] (oc 3 (Orc.cal [] (tsV t) [] (Orc.c (Orc.cal [] (AV.b vb) [] (oc 2 (Orc.cal [] (AV.b vb) [] (oc 2 (Orc.t (Orc.t (Orc.t (Orc.t (Orc.c (Orc.t (Orc.c (Orc.t (Orc.t (Orc.cal [] (AV.b gb) [] (Orc.t (Orc.t (Orc.t (Orc.t (Orc.c (Orc.t (Orc.c (Orc.t (Orc.t (Orc.cal [] (AV.b gb) [] (Orc.t (Orc.t Orc.z))))))))))))))))))))))))))))))))))))))))))))))))))))))))))))))))))))) (fun r _ => rvIs V r) = (Con Try.prog 12 [] [] (AV.b true) [] ∧ True ∧ Con Try.prog 15 [tsV t] [] (tsV t) [] ∧ True ∧ True ∧ True ∧ Con Try.prog 10 [tsV t, AV.i .i64 l, AV.i .i64 k, AV.i .i64 m] [] (AV.tup [tsV a1, AV.i .i64 ea]) [] ∧ True ∧ True ∧ True ∧ Con Try.prog 16 [tsV t, AV.i .i64 l, AV.i .i64 k, AV.i .i64 m] [] (AV.tup [tsV a1, AV.i .i64 ea]) [] ∧ Con Try.prog 15 [tsV t] [] (tsV t) [] ∧ True ∧ True ∧ Con Try.prog 11 [tsV t, AV.i .i64 l, AV.i .i64
  k] [] (AV.tup [tsV f1, AV.i .i64 ef]) [] ∧ True ∧ True ∧ Con Try.prog 17 [tsV t, AV.i .i64 l, AV.i .i64 k] [] (AV.tup [tsV f1, AV.i .i64 ef]) [] ∧ Con Try.prog 18 [tsV a1, tsV a1] [] (AV.b true) [] ∧ decide (ea = ea) = true ∧ decide (ea = ea) = true ∧ decide (ea = ea) = true ∧ Con Try.prog 18 [tsV f1, tsV f1] [] (AV.b true) [] ∧ decide (ea = ea) = true ∧ decide (ef = ef) = true ∧ decide (ef = ef) = true ∧ Con Try.prog 15 [tsV t] [] (tsV t) [] ∧ decide (ef = ef) = true ∧ True ∧ decide (ef = ef) = true ∧ decide (ef = ef) = true ∧ Con Try.prog 19 [tsV t, AV.i .i64 k] [] (tsV d1) [] ∧ decide (ef = ef) = true ∧ decide (ef = ef) = true ∧ True ∧ decide (ef = ef) = true ∧ decide (ef = ef) = true ∧ Con Try.prog 20 [tsV t, AV.i .i64 k] [] (tsV d1) [] ∧ decide (ef = ef) = true ∧ Con Try.prog 18 [tsV d1, tsV d1] [] (AV.b true) [] ∧ decide (ef = ef) = true ∧ Con Try.prog 15 [tsV t] [] (tsV t) [] ∧
  True ∧ Con Try.prog 14 [tsV t, AV.i .i64 k] [] (svN hn hA hM hW) [] ∧ True ∧ Con Try.prog 22 [tsV t, AV.i .i64 k] [] (svN hn hA hM hW) [] ∧ Con Try.prog 21 [svN hn hA hM hW, svN hn hA hM hW] [] (AV.b true) [] ∧ Con Try.prog 15 [tsV t] [] (tsV t) [] ∧ Con Try.prog 13 [tsV t] [] (AV.b vb) [] ∧ Con Try.prog 23 [tsV t] [] (AV.b vb) [] ∧ True ∧ (vb == vb) = true ∧ True ∧ (vb == vb) = true ∧ (vb == vb) = true ∧ True ∧ (vb == vb) = true ∧ (vb == vb) = true ∧ (vb == vb) = true ∧ (vb == vb) = true ∧ Con Try.prog 24 [AV.i .i64 m, AV.i .i64 (TS.h t 0 0)] [] (AV.b gb) [] ∧ (vb == vb) = true ∧ True ∧ (vb == vb) = true ∧ (vb == vb) = true ∧ True ∧ (vb == vb) = true ∧ (vb == vb) = true ∧ (vb == vb) = true ∧ (vb == vb) = true ∧ Con Try.prog 25 [AV.i .i64 m, AV.i .i64 (TS.h t 0 0)] [] (AV.b gb) [] ∧ (vb == vb) = true ∧ True ∧ (vb == vb) = true ∧ (AV.b (gb == gb)) = V) := by kernel_rfl
theorem law4_con (s : LS) (ok : s.ok) (kk l k m : Int) : Con Try.prog 4 [lsV s, .agg [.i .i64 kk, .i .i64 l, .i .i64 k, .i .i64 m]] [] (.b true) [] := by
  have hq := sameH_con (hldS s k) (by have := hldS_len s k; omega)
  have h : Con Try.prog 4 [lsV s, .agg [.i .i64 kk, .i .i64 l, .i .i64 k, .i .i64 m]] [] (.b (goesB m (s.ts.h 0 0) == goesB m (s.ts.h 0 0))) [] :=
    con_pureX (c4_vc s.ts (askS s l k m).ts (freeS s l k).ts (dropS s k).ts (askE s l k m) (freeE s l k) (vaS s) (goesB m (s.ts.h 0 0)) (hldS s k).length (qA (hldS s k)) (qM (hldS s k)) (qW (hldS s k)) kk l k m _) rfl ⟨awake_con, trivial, own_con _ ok, trivial, trivial, trivial, ask_con s ok l k m, trivial, trivial, trivial, raskA_con s ok l k m, own_con _ ok, trivial, trivial, free_con s ok l k, trivial, trivial, rfreeA_con s ok l k, same_con _ (askS_ok ok l k m), decide_eq_true rfl, decide_eq_true rfl, decide_eq_true rfl, same_con _ (freeS_ok ok l k), decide_eq_true rfl, decide_eq_true rfl, decide_eq_true rfl, own_con _ ok, decide_eq_true rfl, trivial, decide_eq_true rfl, decide_eq_true rfl, drop_con s ok k, decide_eq_true rfl, decide_eq_true rfl, trivial, decide_eq_true rfl, decide_eq_true rfl, rdropA_con s ok k, decide_eq_true rfl, same_con _ (dropS_ok ok k), decide_eq_true rfl, own_con _ ok, trivial, holds_con s ok k, trivial, rholdsA_con s ok k, hq, own_con _ ok, valid_con s ok, rvalidA_con s ok, trivial, beq_self_eq_true _, trivial, beq_self_eq_true _, beq_self_eq_true _, trivial, beq_self_eq_true _, beq_self_eq_true _, beq_self_eq_true _, beq_self_eq_true _, goes_con m _, beq_self_eq_true _, trivial, beq_self_eq_true _, beq_self_eq_true _, trivial, beq_self_eq_true _, beq_self_eq_true _, beq_self_eq_true _, beq_self_eq_true _, rgoes_con m _, beq_self_eq_true _, trivial, beq_self_eq_true _, rfl⟩
  rw [beq_self_eq_true] at h
  exact h
def CLs (f : Nat → CV) : Nat → List CV → Prop
  | _, [] => True
  | k, a :: l => CLe (f k) a ∧ CLs f (k + 1) l
theorem CLs.app {f : Nat → CV} : ∀ {k : Nat} {a b : List CV}, CLs f k a → CLs f (k + a.length) b → CLs f k (a ++ b)
  | _, [], _, _, h => h
  | k, x :: a, b, ⟨h1, h2⟩, h => ⟨h1, CLs.app h2 (by rw [show k + 1 + a.length = k + (x :: a).length by simp; omega]; exact h)⟩
theorem CLs.get {f : Nat → CV} : ∀ {l : List CV} {k : Nat}, CLs f k l → ∀ j, j < l.length → CLe (f (k + j)) (l.getD j .p0)
  | [], _, _, j, h => absurd h (by simp)
  | a :: l, k, ⟨h1, h2⟩, 0, _ => h1
  | a :: l, k, ⟨h1, h2⟩, j + 1, h => by
    have := CLs.get h2 j (by simpa using h)
    rw [show k + 1 + j = k + (j + 1) by omega] at this
    exact this
theorem CLs.rec {f : Nat → CV} {g : Nat → List CV} {sz k : Nat} (hg : ∀ l, (g l).length = sz) : ∀ n, (∀ l, l < n → CLs f (k + l * sz) (g l)) → CLs f k (Nat.rec [] (fun l ih => ih ++ g l) n : List CV) ∧ (Nat.rec [] (fun l ih => ih ++ g l) n : List CV).length = n * sz
  | 0, _ => ⟨trivial, (Nat.zero_mul sz).symm⟩
  | n + 1, h => by
    obtain ⟨a, b⟩ := CLs.rec hg n fun l hl => h l (by omega)
    refine ⟨a.app ?_, ?_⟩
    · rw [b]; exact h n (by omega)
    · show (_ ++ g n).length = _
      rw [List.length_append, b, hg, Nat.succ_mul]
theorem shpInts {d : Nat} {f : Nat → CV} (h : Shp Try.prog (d + 2) 22 f) : ∃ (n : Nat) (g : Nat → Int), CLe (f 0) (isC n g) ∧ n * 8 ≤ reachBytes := by
  have us : Try.prog.underlying 22 = some (.slice 3) := by kernel_rfl
  have b : Try.prog.bytesOf 3 = 8 := by kernel_rfl
  have c : Try.prog.cellsOf 3 = 1 := by kernel_rfl
  obtain ⟨n, g, hg, _, hb, hi⟩ := Shp.slice (d + 1) rfl h us
  rw [c] at hg
  rw [b] at hb
  obtain ⟨W, hW⟩ := Classical.axiomOfChoice (r := fun (i : Nat) (q : Int) => i < n → g i 0 = .i .i64 q) (fun i => by
    by_cases q : i < n
    · obtain ⟨x, hx, _⟩ := Shp.int d rfl (hi i q) u3
      exact ⟨x, fun _ => hx⟩
    · exact ⟨0, fun h => absurd h q⟩)
  refine ⟨n, W, ?_, hb⟩
  rw [hg]
  refine CLe.sv fun i j a b => ?_
  obtain rfl : j = 0 := by omega
  exact .of (hW i a)
theorem shpThree {d : Nat} {f : Nat → CV} {t e e1 e2 : TypeId} (us : Try.prog.underlying t = some (.slice e)) (b : Try.prog.bytesOf e = 24) (c : Try.prog.cellsOf e = 3) (f0 : fld Try.prog e 0 = some (3, 0)) (f1 : fld Try.prog e 1 = some (e1, 1)) (f2 : fld Try.prog e 2 = some (e2, 2))
    (u1 : Try.prog.underlying e1 = some (.int .i64)) (u2 : Try.prog.underlying e2 = some (.int .i64)) (h : Shp Try.prog (d + 3) t f) : ∃ (n : Nat) (A M W : Nat → Int), CLe (f 0) (svC n A M W) ∧ n * 24 ≤ reachBytes := by
  obtain ⟨n, g, hg, _, hb, hi⟩ := Shp.slice (d + 2) rfl h us
  rw [c] at hg
  rw [b] at hb
  obtain ⟨W, hW⟩ := Classical.axiomOfChoice (r := fun (i : Nat) (q : Int × Int × Int) => i < n → g i 0 = .i .i64 q.1 ∧ g i 1 = .i .i64 q.2.1 ∧ g i 2 = .i .i64 q.2.2) (fun i => by
    by_cases q : i < n
    · obtain ⟨x, hx, _⟩ := Shp.int d rfl (Shp.field (d + 1) rfl (hi i q) f0) u3
      obtain ⟨y, hy, _⟩ := Shp.int d rfl (Shp.field (d + 1) rfl (hi i q) f1) u1
      obtain ⟨z, hz, _⟩ := Shp.int d rfl (Shp.field (d + 1) rfl (hi i q) f2) u2
      exact ⟨(x, y, z), fun _ => ⟨by simpa using hx, by simpa using hy, by simpa using hz⟩⟩
    · exact ⟨(0, 0, 0), fun h => absurd h q⟩)
  refine ⟨n, fun i => (W i).1, fun i => (W i).2.1, fun i => (W i).2.2, ?_, hb⟩
  rw [hg]
  refine CLe.sv fun i j a b => ?_
  match j, b with
  | 0, _ => exact .of (hW i a).1
  | 1, _ => exact .of (hW i a).2.1
  | 2, _ => exact .of (hW i a).2.2
theorem shpHolds {d : Nat} {f : Nat → CV} (h : Shp Try.prog (d + 3) 27 f) : ∃ (n : Nat) (A M W : Nat → Int), CLe (f 0) (svC n A M W) ∧ n * 24 ≤ reachBytes :=
  shpThree (e := 61) (e1 := 34) (e2 := 34) (by kernel_rfl) (by kernel_rfl) (by kernel_rfl) (by kernel_rfl) (by kernel_rfl) (by kernel_rfl) u34 u34 h
theorem shpDead {d : Nat} {f : Nat → CV} (h : Shp Try.prog (d + 3) 28 f) : ∃ (n : Nat) (A M W : Nat → Int), CLe (f 0) (svC n A M W) ∧ n * 24 ≤ reachBytes :=
  shpThree (e := 83) (e1 := 3) (e2 := 3) (by kernel_rfl) (by kernel_rfl) (by kernel_rfl) (by kernel_rfl) (by kernel_rfl) (by kernel_rfl) u3 u3 h
theorem shpConfig {d : Nat} {f : Nat → CV} (h : Shp Try.prog (d + 3) 24 f) : ∃ (e : Int) (mn : Nat) (mf : Nat → Int) (sn : Nat) (sf : Nat → Int), f 0 = .i .i64 e ∧ CLe (f 1) (isC mn mf) ∧ CLe (f 2) (isC sn sf) ∧ mn * 8 ≤ reachBytes ∧ sn * 8 ≤ reachBytes := by
  obtain ⟨e, he, _⟩ := Shp.int (d + 1) rfl (Shp.field (i := 0) (e := 3) (o := 0) (d + 2) rfl h (by kernel_rfl)) u3
  obtain ⟨mn, mf, hm, bm⟩ := shpInts (Shp.field (i := 1) (e := 22) (o := 1) (d + 2) rfl h (by kernel_rfl))
  obtain ⟨sn, sf, hs, bs⟩ := shpInts (Shp.field (i := 2) (e := 22) (o := 2) (d + 2) rfl h (by kernel_rfl))
  exact ⟨e, mn, mf, sn, sf, he, hm, hs, bm, bs⟩
theorem shpMember {f : Nat → CV} (h : Shp Try.prog 5 32 f) : ∃ b : Mb, CLs f 0 (mbC b) ∧ b.mn * 8 ≤ reachBytes ∧ b.sn * 8 ≤ reachBytes ∧ b.hn * 24 ≤ reachBytes ∧ b.dn * 24 ≤ reachBytes := by
  have u25 : Try.prog.underlying 25 = some (.int .i64) := by kernel_rfl
  have u26 : Try.prog.underlying 26 = some (.int .i64) := by kernel_rfl
  obtain ⟨x0, h0, _⟩ := Shp.int 3 rfl (Shp.field (i := 0) (e := 25) (o := 0) 4 rfl h (by kernel_rfl)) u25
  obtain ⟨x1, h1, _⟩ := Shp.int 3 rfl (Shp.field (i := 1) (e := 3) (o := 1) 4 rfl h (by kernel_rfl)) u3
  obtain ⟨x2, h2, _⟩ := Shp.int 3 rfl (Shp.field (i := 2) (e := 3) (o := 2) 4 rfl h (by kernel_rfl)) u3
  obtain ⟨x3, h3, _⟩ := Shp.int 3 rfl (Shp.field (i := 3) (e := 3) (o := 3) 4 rfl h (by kernel_rfl)) u3
  obtain ⟨x4, h4, _⟩ := Shp.int 3 rfl (Shp.field (i := 4) (e := 3) (o := 4) 4 rfl h (by kernel_rfl)) u3
  obtain ⟨x5, h5, _⟩ := Shp.int 3 rfl (Shp.field (i := 5) (e := 3) (o := 5) 4 rfl h (by kernel_rfl)) u3
  have hv := Shp.field (i := 6) (e := 30) (o := 6) 4 rfl h (by kernel_rfl)
  obtain ⟨x6, h6, _⟩ := Shp.int 2 rfl (Shp.field (i := 0) (e := 26) (o := 0) 3 rfl hv (by kernel_rfl)) u26
  obtain ⟨x7, h7, _⟩ := Shp.int 2 rfl (Shp.field (i := 1) (e := 3) (o := 1) 3 rfl hv (by kernel_rfl)) u3
  obtain ⟨x8, mn, mf, sn, sf, h8, h9, h10, b1, b2⟩ := shpConfig (d := 0) (Shp.field (i := 2) (e := 24) (o := 2) 3 rfl hv (by kernel_rfl))
  obtain ⟨hn, hA, hM, hW, h11, b3⟩ := shpHolds (d := 0) (Shp.field (i := 3) (e := 27) (o := 5) 3 rfl hv (by kernel_rfl))
  obtain ⟨dn, dA, dM, dW, h12, b4⟩ := shpDead (d := 0) (Shp.field (i := 4) (e := 28) (o := 6) 3 rfl hv (by kernel_rfl))
  exact ⟨⟨fun i => [x0, x1, x2, x3, x4, x5, x6, x7, x8].getD i 0, mn, mf, sn, sf, hn, hA, hM, hW, dn, dA, dM, dW⟩, ⟨.of h0, .of h1, .of h2, .of h3, .of h4, .of h5, .of h6, .of h7, .of h8, h9, h10, h11, h12, trivial⟩, b1, b2, b3, b4⟩
theorem CLs.shift {f : Nat → CV} {o : Nat} : ∀ {l : List CV} {k : Nat}, CLs (fun j => f (o + j)) k l → CLs f (o + k) l
  | [], _, _ => trivial
  | a :: l, k, ⟨h1, h2⟩ => ⟨h1, CLs.shift (k := k + 1) h2⟩
noncomputable def listQ (n : Nat) (A M W : Nat → Int) : List HQ := (List.range n).map fun i => ⟨A i, M i, W i⟩
theorem listQ_len (n : Nat) (A M W : Nat → Int) : (listQ n A M W).length = n := by simp [listQ]
theorem listQ_at {n : Nat} {A M W : Nat → Int} {i : Nat} (h : i < n) : (listQ n A M W).getD i hz = ⟨A i, M i, W i⟩ := by
  unfold listQ
  rw [List.getD_eq_getElem?_getD, List.getElem?_map, List.getElem?_range h]; rfl
theorem CLe.trans {a b c : CV} (h1 : CLe a b) (h2 : CLe b c) : CLe a c := fun ro v h => h2 ro v (h1 ro v h)
theorem listQ_cle (n : Nat) (A M W : Nat → Int) : CLe (svC n A M W) (svC (listQ n A M W).length (qA (listQ n A M W)) (qM (listQ n A M W)) (qW (listQ n A M W))) := by
  rw [listQ_len]
  unfold svC
  refine CLe.sv fun i j a b => .of ?_
  have e := listQ_at (A := A) (M := M) (W := W) a
  have eA : qA (listQ n A M W) i = A i := by unfold qA; rw [e]
  have eM : qM (listQ n A M W) i = M i := by unfold qM; rw [e]
  have eW : qW (listQ n A M W) i = W i := by unfold qW; rw [e]
  match j, b with
  | 0, _ => show CV.i .i64 (A i) = .i .i64 (qA _ i); rw [eA]
  | 1, _ => show CV.i .i64 (M i) = .i .i64 (qM _ i); rw [eM]
  | 2, _ => show CV.i .i64 (W i) = .i .i64 (qW _ i); rw [eW]
noncomputable def rsOf (x0 x1 x2 : Int) (mn : Nat) (mf : Nat → Int) (sn : Nat) (sf : Nat → Int) (m0 m1 m2 : Mb) : Rs := ⟨fun i => Nat.rec x0 (fun i _ => Nat.rec x1 (fun _ _ => x2) i) i, mn, mf, sn, sf, fun i => Nat.rec m0 (fun i _ => Nat.rec m1 (fun _ _ => m2) i) i⟩
theorem rsOf_mb {x0 x1 x2 : Int} {mn : Nat} {mf : Nat → Int} {sn : Nat} {sf : Nat → Int} {m0 m1 m2 : Mb} (p : Mb → Prop) (h0 : p m0) (h1 : p m1) (h2 : p m2) : ∀ i, p ((rsOf x0 x1 x2 mn mf sn sf m0 m1 m2).s i)
  | 0 => h0
  | 1 => h1
  | _ + 2 => h2
noncomputable def stOf (r : Rs) (H : Nat → Int × Int × Int) (Q : Nat → List HQ) : LS := ⟨r, fun l => ⟨fun j => bif Nat.beq j 0 then (H l).1 else bif Nat.beq j 1 then (H l).2.1 else (H l).2.2, if l < 19 then Q l else []⟩⟩
theorem tsC_len2 (t : TS) : (tsC t).length = 120 := by kernel_rfl
theorem rsC_len2 (r : Rs) : (rsC r).length = 44 := by kernel_rfl
noncomputable def hL (t : TS) : List CV := Nat.rec [] (fun l ih => ih ++ [hF t.h l 0, hF t.h l 1, hF t.h l 2]) 19
noncomputable def qL (t : TS) : List CV := Nat.rec [] (fun l ih => ih ++ [quF t.n t.A t.M t.W l]) 19
theorem tsC_eq (t : TS) : tsC t = rsC t.r ++ hL t ++ qL t := rfl
theorem hL_cls {f : Nat → CV} {t : TS} (h : ∀ l, l < 19 → CLs f (44 + l * 3) [hF t.h l 0, hF t.h l 1, hF t.h l 2]) : CLs f 44 (hL t) ∧ (hL t).length = 57 := CLs.rec (sz := 3) (g := fun l => [hF t.h l 0, hF t.h l 1, hF t.h l 2]) (fun _ => rfl) 19 h
theorem qL_cls {f : Nat → CV} {t : TS} (h : ∀ l, l < 19 → CLs f (101 + l * 1) [quF t.n t.A t.M t.W l]) : CLs f 101 (qL t) ∧ (qL t).length = 19 := CLs.rec (sz := 1) (g := fun l => [quF t.n t.A t.M t.W l]) (fun _ => rfl) 19 h
theorem tsC_cls {f : Nat → CV} {t : TS} (hr : CLs f 0 (rsC t.r)) (a : CLs f 44 (hL t) ∧ (hL t).length = 57) (b : CLs f 101 (qL t) ∧ (qL t).length = 19) : CLs f 0 (tsC t) := by
  rw [tsC_eq]
  generalize hL t = x at a
  generalize qL t = y at b
  have e := rsC_len2 t.r
  generalize rsC t.r = z at hr e
  refine CLs.app (CLs.app hr ?_) ?_
  · rw [e]; exact a.1
  · rw [List.length_append, e, a.2]; exact b.1
theorem stOf_cls {f : Nat → CV} {r : Rs} {H : Nat → Int × Int × Int} {Q : Nat → List HQ} (hr : CLs f 0 (rsC r)) (hH : ∀ l, l < 19 → f (44 + (l * 3 + 0)) = .i .i64 (H l).1 ∧ f (44 + (l * 3 + 1)) = .i .i64 (H l).2.1 ∧ f (44 + (l * 3 + 2)) = .i .i64 (H l).2.2)
    (hQ : ∀ l, l < 19 → CLe (f (101 + (l * 1 + 0))) (svC (Q l).length (qA (Q l)) (qM (Q l)) (qW (Q l)))) : CLs f 0 (tsC (stOf r H Q).ts) := by
  refine tsC_cls hr (hL_cls fun l hl => ?_) (qL_cls fun l hl => ?_)
  · obtain ⟨a, b, c⟩ := hH l hl
    exact ⟨.of a, .of b, .of c, trivial⟩
  · refine ⟨?_, trivial⟩
    have a := hQ l hl
    have e : (if l < 19 then Q l else []) = Q l := if_pos hl
    show CLe (f (101 + l * 1)) (svC (if l < 19 then Q l else []).length (qA (if l < 19 then Q l else [])) (qM (if l < 19 then Q l else [])) (qW (if l < 19 then Q l else [])))
    rw [e]
    exact a
theorem shpState {f : Nat → CV} (h : Shp Try.prog 7 39 f) : ∃ s : LS, s.ok ∧ ∀ j, j < 120 → CLe (f j) ((tsC s.ts).getD j .p0) := by
  have hr : reachBytes = 140737488351232 := rfl
  obtain ⟨x0, h0, _⟩ := Shp.int 5 rfl (Shp.field (i := 0) (e := 3) (o := 0) 6 rfl h (by kernel_rfl)) u3
  obtain ⟨x1, h1, _⟩ := Shp.int 5 rfl (Shp.field (i := 1) (e := 3) (o := 1) 6 rfl h (by kernel_rfl)) u3
  obtain ⟨x2, mn, mf, sn, sf, h2, h3, h4, b1, b2⟩ := shpConfig (d := 3) (Shp.field (i := 2) (e := 24) (o := 2) 6 rfl h (by kernel_rfl))
  have hs := Shp.field (i := 3) (e := 33) (o := 5) 6 rfl h (by kernel_rfl)
  have c32 : Try.prog.cellsOf 32 = 13 := by kernel_rfl
  have mem : ∀ i, i < 3 → ∃ b : Mb, CLs f (5 + i * 13) (mbC b) ∧ b.mn * 8 ≤ reachBytes ∧ b.sn * 8 ≤ reachBytes ∧ b.hn * 24 ≤ reachBytes ∧ b.dn * 24 ≤ reachBytes := by
    intro i hi
    obtain ⟨b, k, r⟩ := shpMember (Shp.elem (n := 3) (e := 32) 5 rfl hs (by kernel_rfl) hi)
    refine ⟨b, ?_, r⟩
    rw [c32] at k
    have k2 := CLs.shift (f := fun j => f (5 + j)) (o := i * 13) k
    have k3 := CLs.shift (f := f) (o := 5) k2
    exact k3
  obtain ⟨m0, k0, q0⟩ := mem 0 (by decide)
  obtain ⟨m1, k1, q1⟩ := mem 1 (by decide)
  obtain ⟨m2, k2, q2⟩ := mem 2 (by decide)
  have hh := Shp.field (i := 4) (e := 36) (o := 44) 6 rfl h (by kernel_rfl)
  have c35 : Try.prog.cellsOf 35 = 3 := by kernel_rfl
  have c34 : Try.prog.cellsOf 34 = 1 := by kernel_rfl
  obtain ⟨H, hH⟩ := Classical.axiomOfChoice (r := fun (l : Nat) (q : Int × Int × Int) => l < 19 → f (44 + (l * 3 + 0)) = .i .i64 q.1 ∧ f (44 + (l * 3 + 1)) = .i .i64 q.2.1 ∧ f (44 + (l * 3 + 2)) = .i .i64 q.2.2) (fun l => by
    by_cases q : l < 19
    · have hl := Shp.elem (n := 19) (e := 35) 5 rfl hh (by kernel_rfl) q
      obtain ⟨x, hx, _⟩ := Shp.int 3 rfl (Shp.elem (n := 3) (e := 34) 4 rfl hl (by kernel_rfl) (show 0 < 3 by decide)) u34
      obtain ⟨y, hy, _⟩ := Shp.int 3 rfl (Shp.elem (n := 3) (e := 34) 4 rfl hl (by kernel_rfl) (show 1 < 3 by decide)) u34
      obtain ⟨z, hz, _⟩ := Shp.int 3 rfl (Shp.elem (n := 3) (e := 34) 4 rfl hl (by kernel_rfl) (show 2 < 3 by decide)) u34
      rw [c35, c34] at hx hy hz
      exact ⟨(x, y, z), fun _ => ⟨hx, hy, hz⟩⟩
    · exact ⟨(0, 0, 0), fun h => absurd h q⟩)
  have hq := Shp.field (i := 5) (e := 37) (o := 101) 6 rfl h (by kernel_rfl)
  have c27 : Try.prog.cellsOf 27 = 1 := by kernel_rfl
  obtain ⟨Q, hQ⟩ := Classical.axiomOfChoice (r := fun (l : Nat) (q : List HQ) => l < 19 → CLe (f (101 + (l * 1 + 0))) (svC q.length (qA q) (qM q) (qW q)) ∧ q.length * 24 ≤ reachBytes) (fun l => by
    by_cases q : l < 19
    · obtain ⟨n, A, M, W, k, b⟩ := shpHolds (d := 2) (Shp.elem (n := 19) (e := 27) 5 rfl hq (by kernel_rfl) q)
      rw [c27] at k
      exact ⟨listQ n A M W, fun _ => ⟨CLe.trans k (listQ_cle n A M W), by rw [listQ_len]; exact b⟩⟩
    · exact ⟨[], fun h => absurd h q⟩)
  have ok : (stOf (rsOf x0 x1 x2 mn mf sn sf m0 m1 m2) H Q).ok := by
    refine ⟨⟨?_, ?_⟩, ?_, ?_⟩
    · show mn ≤ _; omega
    · show sn ≤ _; omega
    · exact rsOf_mb (fun b => b.mn ≤ 17592186044416 ∧ b.sn ≤ 17592186044416 ∧ b.hn ≤ 5864062014805 ∧ b.dn ≤ 5864062014805) ⟨by omega, by omega, by omega, by omega⟩ ⟨by omega, by omega, by omega, by omega⟩ ⟨by omega, by omega, by omega, by omega⟩
    · intro l
      show (if l < 19 then Q l else []).length ≤ _
      split
      · rename_i c; have := (hQ l c).2; omega
      · simp
  have key := stOf_cls (f := f) (H := H) (Q := Q) (r := rsOf x0 x1 x2 mn mf sn sf m0 m1 m2) (CLs.app (CLs.app (CLs.app (a := [_, _, _, _, _]) ⟨.of h0, .of h1, .of h2, h3, h4, trivial⟩ k0) k1) k2) hH (fun l hl => (hQ l hl).1)
  refine ⟨_, ok, fun j hj => ?_⟩
  have := key.get j (by rw [tsC_len2]; exact hj)
  rw [Nat.zero_add] at this
  exact this
theorem argState (s : LS) : argAV Try.prog 39 (fun j => (tsC s.ts).getD j .p0) = lsV s := by kernel_rfl
theorem shpOp {f : Nat → CV} (h : Shp Try.prog 3 47 f) : ∃ kk l k m : Int, f 0 = .i .i64 kk ∧ f 1 = .i .i64 l ∧ f 2 = .i .i64 k ∧ f 3 = .i .i64 m := by
  obtain ⟨x0, h0, _⟩ := Shp.int 1 rfl (Shp.field (i := 0) (e := 3) (o := 0) 2 rfl h (by kernel_rfl)) u3
  obtain ⟨x1, h1, _⟩ := Shp.int 1 rfl (Shp.field (i := 1) (e := 3) (o := 1) 2 rfl h (by kernel_rfl)) u3
  obtain ⟨x2, h2, _⟩ := Shp.int 1 rfl (Shp.field (i := 2) (e := 3) (o := 2) 2 rfl h (by kernel_rfl)) u3
  obtain ⟨x3, h3, _⟩ := Shp.int 1 rfl (Shp.field (i := 3) (e := 34) (o := 3) 2 rfl h (by kernel_rfl)) u34
  exact ⟨x0, x1, x2, x3, h0, h1, h2, h3⟩
end Go.Proofs.Lk
