/- Runs over unknown values, told by the kernel: part LpB. -/
import Derived.Test.YtnekjjidcknieaaLpA
set_option linter.unusedSimpArgs false
set_option linter.unusedVariables false
set_option maxRecDepth 20000
namespace Go.Proofs.Lk
open Go Go.Sim Go.Proofs
theorem d9A_vc (t : TS) (t1 : TS) (ec : Int) (n i : Nat) (KK L S M : Nat → Int) (k : Int) (h1 : decide (Int.ofNat i < Int.ofNat n) = true) (h2 : decide (200 < Int.ofNat i) = false) (h3 : decide (KK (Int.toNat (Int.ofNat i)) = 1) = false) (h4 : decide (ec = 0) = true) (K : Res → Orc → Prop) : runK Try.prog 1000000 (.code (loopAt Try.prog 9 0) 128 (mkT [(1, .i .i64 k), (5, .p 0 0), (24, .sv 4 n (opC KK L S M)), (25, .i .i64 (Int.ofNat n)), (26, .i .i64 (Int.ofNat i))]) (mkH [some (tsS t)])) (Orc.t (Orc.f (Orc.f (Orc.cal [] (tsV t) [] (Orc.cal [] (AV.tup [tsV t1, AV.i .i64 ec]) [] (Orc.t Orc.z)))))) K = (decide (Int.ofNat i < Int.ofNat n) = true ∧ (0 ≤ Int.ofNat i ∧ Int.ofNat i < ↑n) ∧ True ∧ decide (200 < Int.ofNat i) = false ∧ True ∧ True ∧ decide (KK i = 1) = false ∧ True ∧ Con Try.prog 15 [tsV t] [] (tsV t) [] ∧ True ∧ True ∧ True ∧ Con Try.prog 10 [tsV t, AV.i .i64 (L i), AV.i .i64 (S
  i), AV.i .i64 (M i)] [] (AV.tup [tsV t1, AV.i .i64 ec]) [] ∧ decide (ec = 0) = true ∧ True ∧ ((-9223372036854775808) ≤ Int.ofNat i + 1 ∧ Int.ofNat i + (1 : Int) ≤ (9223372036854775807 : Int)) ∧ K (Res.st XO.nrm (z0 (z1 (AV.i .i64 k) (z0 (z1 (AV.p 1 0) (z0 (zl (AV.i .i64 (Int.ofNat i))) (zl (AV.tup [tsV t1, AV.i .i64 ec]))) (z0 T.e (zl (AV.i .i64 (M i))))) (z0 (z0 (zl (AV.i .i64 (KK i))) (zl (AV.i .i64 (L i)))) (z1 (AV.b (decide (Int.ofNat i < Int.ofNat n))) T.e (zl (AV.i .i64 ec))))) (z1 (AV.p 0 0) (z1 (AV.i .i64 ec) (z0 (zl (tsV t)) (zl (tsV t))) (z1 (AV.i .i64 (Int.ofNat n)) T.e (zl (tsV t1)))) (z0 (z0 T.e (zl (AV.i .i64 (S i)))) (z1 (AV.pv 4 (opC KK L S M i)) T.e (zl (tsV t1)))))) (z0 (z0 (z1 (AV.p 2 0) (z0 (zl (AV.b (decide (200 < Int.ofNat i)))) (zl (tsV t))) (z1 (AV.sv 4 n (opC KK L S M)) T.e (zl (AV.tup [tsV t1, AV.i .i64 ec])))) (z0 (z0 (zl (AV.b (decide (KK i = 1)))) (zl (AV.p
  1 2))) (z1 (AV.i .i64 (Int.ofNat i)) T.e (zl (AV.b (decide (ec = 0))))))) (z1 (AV.i .i64 (Int.ofNat i)) (z0 (z0 (zl (AV.p 1 0)) (zl (AV.p 1 1))) (z1 (AV.i .i64 (Int.ofNat i + 1)) T.e (zl (AV.i .i64 ec)))) (z0 (z0 T.e (zl (AV.p 1 3))) (z1 (AV.agg [AV.i .i64 (KK i), AV.i .i64 (L i), AV.i .i64 (S i), AV.i .i64 (M i)]) T.e (zl (AV.i .i64 (Int.ofNat i + 1)))))))) ⟨z1 (tsW t1) (zl (AObj.cells 47 4 [AV.i .i64 0, AV.i .i64 0, AV.i .i64 0, AV.i .i64 0] (z1 (AV.i .i64 (KK i)) (z1 (AV.i .i64 (L i)) (zl (AV.i .i64 (M i))) T.e) (zl (AV.i .i64 (S i)))))) (zl (tsZ t1)), 3, [0, 2, 2, 2, 1, 1]⟩) Orc.z) := by kernel_rfl
theorem d9B_vc (t : TS) (t1 : TS) (ec : Int) (n i : Nat) (KK L S M : Nat → Int) (k : Int) (h1 : decide (Int.ofNat i < Int.ofNat n) = true) (h2 : decide (200 < Int.ofNat i) = false) (h3 : decide (KK (Int.toNat (Int.ofNat i)) = 1) = false) (h4 : decide (ec = 0) = false) (K : Res → Orc → Prop) : runK Try.prog 1000000 (.code (loopAt Try.prog 9 0) 128 (mkT [(1, .i .i64 k), (5, .p 0 0), (24, .sv 4 n (opC KK L S M)), (25, .i .i64 (Int.ofNat n)), (26, .i .i64 (Int.ofNat i))]) (mkH [some (tsS t)])) (Orc.t (Orc.f (Orc.f (Orc.cal [] (tsV t) [] (Orc.cal [] (AV.tup [tsV t1, AV.i .i64 ec]) [] (Orc.f Orc.z)))))) K = (decide (Int.ofNat i < Int.ofNat n) = true ∧ (0 ≤ Int.ofNat i ∧ Int.ofNat i < ↑n) ∧ True ∧ decide (200 < Int.ofNat i) = false ∧ True ∧ True ∧ decide (KK i = 1) = false ∧ True ∧ Con Try.prog 15 [tsV t] [] (tsV t) [] ∧ True ∧ True ∧ True ∧ Con Try.prog 10 [tsV t, AV.i .i64 (L i), AV.i .i64 (S
  i), AV.i .i64 (M i)] [] (AV.tup [tsV t1, AV.i .i64 ec]) [] ∧ decide (ec = 0) = false ∧ ((-9223372036854775808) ≤ Int.ofNat i + 1 ∧ Int.ofNat i + (1 : Int) ≤ (9223372036854775807 : Int)) ∧ K (Res.st XO.nrm (z0 (z1 (AV.i .i64 k) (z0 (z1 (AV.p 1 0) (z0 (zl (AV.i .i64 (Int.ofNat i))) (zl (AV.tup [tsV t1, AV.i .i64 ec]))) (z0 T.e (zl (AV.i .i64 (M i))))) (z0 (z0 (zl (AV.i .i64 (KK i))) (zl (AV.i .i64 (L i)))) (z1 (AV.b (decide (Int.ofNat i < Int.ofNat n))) T.e (zl (AV.i .i64 ec))))) (z1 (AV.p 0 0) (z1 (AV.i .i64 ec) (z0 (zl (tsV t)) (zl (tsV t))) (z1 (AV.i .i64 (Int.ofNat n)) T.e (zl (tsV t1)))) (z0 (z0 T.e (zl (AV.i .i64 (S i)))) (zl (AV.pv 4 (opC KK L S M i)))))) (z0 (z0 (z1 (AV.p 2 0) (z0 (zl (AV.b (decide (200 < Int.ofNat i)))) (zl (tsV t))) (z1 (AV.sv 4 n (opC KK L S M)) T.e (zl (AV.tup [tsV t1, AV.i .i64 ec])))) (z0 (z0 (zl (AV.b (decide (KK i = 1)))) (zl (AV.p 1 2))) (z1 (AV.i .i64
  (Int.ofNat i)) T.e (zl (AV.b (decide (ec = 0))))))) (z1 (AV.i .i64 (Int.ofNat i)) (z0 (z0 (zl (AV.p 1 0)) (zl (AV.p 1 1))) (z1 (AV.i .i64 (Int.ofNat i + 1)) T.e (zl (AV.i .i64 ec)))) (z0 (z0 T.e (zl (AV.p 1 3))) (z1 (AV.agg [AV.i .i64 (KK i), AV.i .i64 (L i), AV.i .i64 (S i), AV.i .i64 (M i)]) T.e (zl (AV.i .i64 (Int.ofNat i + 1)))))))) ⟨z1 (tsS t) (zl (AObj.cells 47 4 [AV.i .i64 0, AV.i .i64 0, AV.i .i64 0, AV.i .i64 0] (z1 (AV.i .i64 (KK i)) (z1 (AV.i .i64 (L i)) (zl (AV.i .i64 (M i))) T.e) (zl (AV.i .i64 (S i)))))) (zl (tsZ t1)), 3, [2, 2, 2, 1, 1]⟩) Orc.z) := by kernel_rfl
theorem d9C_vc (t : TS) (t1 : TS) (ec : Int) (n i : Nat) (KK L S M : Nat → Int) (k : Int) (h1 : decide (Int.ofNat i < Int.ofNat n) = true) (h2 : decide (200 < Int.ofNat i) = false) (h3 : decide (KK (Int.toNat (Int.ofNat i)) = 1) = true) (h4 : decide (ec = 0) = true) (K : Res → Orc → Prop) : runK Try.prog 1000000 (.code (loopAt Try.prog 9 0) 128 (mkT [(1, .i .i64 k), (5, .p 0 0), (24, .sv 4 n (opC KK L S M)), (25, .i .i64 (Int.ofNat n)), (26, .i .i64 (Int.ofNat i))]) (mkH [some (tsS t)])) (Orc.t (Orc.f (Orc.t (Orc.cal [] (tsV t) [] (Orc.cal [] (AV.tup [tsV t1, AV.i .i64 ec]) [] (Orc.t Orc.z)))))) K = (decide (Int.ofNat i < Int.ofNat n) = true ∧ (0 ≤ Int.ofNat i ∧ Int.ofNat i < ↑n) ∧ True ∧ decide (200 < Int.ofNat i) = false ∧ True ∧ True ∧ decide (KK i = 1) = true ∧ True ∧ Con Try.prog 15 [tsV t] [] (tsV t) [] ∧ True ∧ True ∧ Con Try.prog 11 [tsV t, AV.i .i64 (L i), AV.i .i64 (S i)] []
  (AV.tup [tsV t1, AV.i .i64 ec]) [] ∧ decide (ec = 0) = true ∧ True ∧ ((-9223372036854775808) ≤ Int.ofNat i + 1 ∧ Int.ofNat i + (1 : Int) ≤ (9223372036854775807 : Int)) ∧ K (Res.st XO.nrm (z0 (z1 (AV.i .i64 k) (z0 (z1 (AV.p 1 0) (z0 (zl (AV.i .i64 (Int.ofNat i))) T.e) (z0 (zl (tsV t)) T.e)) (z0 (z0 (zl (AV.i .i64 (KK i))) T.e) (z1 (AV.b (decide (Int.ofNat i < Int.ofNat n))) (zl (AV.i .i64 (S i))) (zl (AV.i .i64 ec))))) (z1 (AV.p 0 0) (z1 (AV.i .i64 ec) (z0 (zl (tsV t)) T.e) (z1 (AV.i .i64 (Int.ofNat n)) (zl (AV.i .i64 (L i))) T.e)) (z0 (z0 (zl (AV.tup [tsV t1, AV.i .i64 ec])) T.e) (z1 (AV.pv 4 (opC KK L S M i)) (zl (tsV t1)) (zl (tsV t1)))))) (z0 (z0 (z1 (AV.p 2 0) (z0 (zl (AV.b (decide (200 < Int.ofNat i)))) T.e) (z1 (AV.sv 4 n (opC KK L S M)) (zl (AV.p 1 1)) T.e)) (z0 (z0 (zl (AV.b (decide (KK i = 1)))) T.e) (z1 (AV.i .i64 (Int.ofNat i)) (zl (AV.tup [tsV t1, AV.i .i64 ec])) (zl (AV.b
  (decide (ec = 0))))))) (z1 (AV.i .i64 (Int.ofNat i)) (z0 (z0 (zl (AV.p 1 0)) T.e) (z1 (AV.i .i64 (Int.ofNat i + 1)) (zl (AV.p 1 2)) T.e)) (z0 (z0 (zl (tsV t)) T.e) (z1 (AV.agg [AV.i .i64 (KK i), AV.i .i64 (L i), AV.i .i64 (S i), AV.i .i64 (M i)]) (zl (AV.i .i64 ec)) (zl (AV.i .i64 (Int.ofNat i + 1)))))))) ⟨z1 (tsW t1) (zl (AObj.cells 47 4 [AV.i .i64 0, AV.i .i64 0, AV.i .i64 0, AV.i .i64 0] (z1 (AV.i .i64 (KK i)) (z1 (AV.i .i64 (L i)) (zl (AV.i .i64 (M i))) T.e) (zl (AV.i .i64 (S i)))))) (zl (tsZ t1)), 3, [0, 2, 2, 2, 1, 1]⟩) Orc.z) := by kernel_rfl
theorem d9D_vc (t : TS) (t1 : TS) (ec : Int) (n i : Nat) (KK L S M : Nat → Int) (k : Int) (h1 : decide (Int.ofNat i < Int.ofNat n) = true) (h2 : decide (200 < Int.ofNat i) = false) (h3 : decide (KK (Int.toNat (Int.ofNat i)) = 1) = true) (h4 : decide (ec = 0) = false) (K : Res → Orc → Prop) : runK Try.prog 1000000 (.code (loopAt Try.prog 9 0) 128 (mkT [(1, .i .i64 k), (5, .p 0 0), (24, .sv 4 n (opC KK L S M)), (25, .i .i64 (Int.ofNat n)), (26, .i .i64 (Int.ofNat i))]) (mkH [some (tsS t)])) (Orc.t (Orc.f (Orc.t (Orc.cal [] (tsV t) [] (Orc.cal [] (AV.tup [tsV t1, AV.i .i64 ec]) [] (Orc.f Orc.z)))))) K = (decide (Int.ofNat i < Int.ofNat n) = true ∧ (0 ≤ Int.ofNat i ∧ Int.ofNat i < ↑n) ∧ True ∧ decide (200 < Int.ofNat i) = false ∧ True ∧ True ∧ decide (KK i = 1) = true ∧ True ∧ Con Try.prog 15 [tsV t] [] (tsV t) [] ∧ True ∧ True ∧ Con Try.prog 11 [tsV t, AV.i .i64 (L i), AV.i .i64 (S i)] []
  (AV.tup [tsV t1, AV.i .i64 ec]) [] ∧ decide (ec = 0) = false ∧ ((-9223372036854775808) ≤ Int.ofNat i + 1 ∧ Int.ofNat i + (1 : Int) ≤ (9223372036854775807 : Int)) ∧ K (Res.st XO.nrm (z0 (z1 (AV.i .i64 k) (z0 (z1 (AV.p 1 0) (z0 (zl (AV.i .i64 (Int.ofNat i))) T.e) (z0 (zl (tsV t)) T.e)) (z0 (z0 (zl (AV.i .i64 (KK i))) T.e) (z1 (AV.b (decide (Int.ofNat i < Int.ofNat n))) (zl (AV.i .i64 (S i))) (zl (AV.i .i64 ec))))) (z1 (AV.p 0 0) (z1 (AV.i .i64 ec) (z0 (zl (tsV t)) T.e) (z1 (AV.i .i64 (Int.ofNat n)) (zl (AV.i .i64 (L i))) T.e)) (z0 (z0 (zl (AV.tup [tsV t1, AV.i .i64 ec])) T.e) (z1 (AV.pv 4 (opC KK L S M i)) (zl (tsV t1)) T.e)))) (z0 (z0 (z1 (AV.p 2 0) (z0 (zl (AV.b (decide (200 < Int.ofNat i)))) T.e) (z1 (AV.sv 4 n (opC KK L S M)) (zl (AV.p 1 1)) T.e)) (z0 (z0 (zl (AV.b (decide (KK i = 1)))) T.e) (z1 (AV.i .i64 (Int.ofNat i)) (zl (AV.tup [tsV t1, AV.i .i64 ec])) (zl (AV.b (decide (ec =
  0))))))) (z1 (AV.i .i64 (Int.ofNat i)) (z0 (z0 (zl (AV.p 1 0)) T.e) (z1 (AV.i .i64 (Int.ofNat i + 1)) (zl (AV.p 1 2)) T.e)) (z0 (z0 (zl (tsV t)) T.e) (z1 (AV.agg [AV.i .i64 (KK i), AV.i .i64 (L i), AV.i .i64 (S i), AV.i .i64 (M i)]) (zl (AV.i .i64 ec)) (zl (AV.i .i64 (Int.ofNat i + 1)))))))) ⟨z1 (tsS t) (zl (AObj.cells 47 4 [AV.i .i64 0, AV.i .i64 0, AV.i .i64 0, AV.i .i64 0] (z1 (AV.i .i64 (KK i)) (z1 (AV.i .i64 (L i)) (zl (AV.i .i64 (M i))) T.e) (zl (AV.i .i64 (S i)))))) (zl (tsZ t1)), 3, [2, 2, 2, 1, 1]⟩) Orc.z) := by kernel_rfl
theorem d9X_vc (t : TS) (n i : Nat) (KK L S M : Nat → Int) (k : Int) (h1 : decide (Int.ofNat i < Int.ofNat n) = true) (h2 : decide (200 < Int.ofNat i) = true) (K : Res → Orc → Prop) : runK Try.prog 1000000 (.code (loopAt Try.prog 9 0) 128 (mkT [(1, .i .i64 k), (5, .p 0 0), (24, .sv 4 n (opC KK L S M)), (25, .i .i64 (Int.ofNat n)), (26, .i .i64 (Int.ofNat i))]) (mkH [some (tsS t)])) (Orc.t (Orc.t Orc.z)) K = (decide (Int.ofNat i < Int.ofNat n) = true ∧ (0 ≤ Int.ofNat i ∧ Int.ofNat i < ↑n) ∧ True ∧ decide (200 < Int.ofNat i) = true ∧ K (Res.st (XO.exit 0) (z0 (z1 (AV.i .i64 k) (z0 (z1 (AV.p 1 0) (z0 (zl (AV.i .i64 (Int.ofNat i))) T.e) T.e) (z0 T.e (zl (AV.b (decide (Int.ofNat i < Int.ofNat n)))))) (z1 (AV.p 0 0) (z0 T.e (zl (AV.i .i64 (Int.ofNat n)))) (z0 T.e (zl (AV.pv 4 (opC KK L S M i)))))) (z0 (z0 (z0 (z0 (zl (AV.b (decide (200 < Int.ofNat i)))) T.e) (zl (AV.sv 4 n (opC KK L S M))))
  (z0 T.e (zl (AV.i .i64 (Int.ofNat i))))) (z1 (AV.i .i64 (Int.ofNat i)) (z0 T.e (zl (AV.i .i64 (Int.ofNat i)))) (z0 T.e (zl (AV.agg [AV.i .i64 (KK i), AV.i .i64 (L i), AV.i .i64 (S i), AV.i .i64 (M i)])))))) ⟨z1 (tsS t) (zl (AObj.cells 47 4 [AV.i .i64 0, AV.i .i64 0, AV.i .i64 0, AV.i .i64 0] (z1 (AV.i .i64 (KK i)) (z1 (AV.i .i64 (L i)) (zl (AV.i .i64 (M i))) T.e) (zl (AV.i .i64 (S i)))))) T.e, 2, [1, 1]⟩) Orc.z) := by kernel_rfl
theorem d9Y_vc (t : TS) (n i : Nat) (KK L S M : Nat → Int) (k : Int) (h1 : decide (Int.ofNat i < Int.ofNat n) = false) (K : Res → Orc → Prop) : runK Try.prog 1000000 (.code (loopAt Try.prog 9 0) 128 (mkT [(1, .i .i64 k), (5, .p 0 0), (24, .sv 4 n (opC KK L S M)), (25, .i .i64 (Int.ofNat n)), (26, .i .i64 (Int.ofNat i))]) (mkH [some (tsS t)])) (Orc.f Orc.z) K = (decide (Int.ofNat i < Int.ofNat n) = false ∧ K (Res.st (XO.exit 0) (z0 (z1 (AV.i .i64 k) (z0 T.e (z0 T.e (zl (AV.b (decide (Int.ofNat i < Int.ofNat n)))))) (z1 (AV.p 0 0) (z0 T.e (zl (AV.i .i64 (Int.ofNat n)))) T.e)) (z0 (z0 (z0 T.e (zl (AV.sv 4 n (opC KK L S M)))) T.e) (z0 (z0 T.e (zl (AV.i .i64 (Int.ofNat i)))) T.e))) ⟨zl (tsS t), 1, []⟩) Orc.z) := by kernel_rfl
def stD (s : LS) (kk l k m : Int) : LS := if kk = 1 then (if freeE s l k = 0 then freeS s l k else s) else (if askE s l k m = 0 then askS s l k m else s)
def runD (KK L S M : Nat → Int) : Nat → LS
  | 0 => zS
  | i + 1 => stD (runD KK L S M i) (KK i) (L i) (S i) (M i)
theorem runD_s (KK L S M : Nat → Int) (i : Nat) : runD KK L S M (i + 1) = stD (runD KK L S M i) (KK i) (L i) (S i) (M i) := rfl
theorem stD_ok {s : LS} (o : s.ok) (kk l k m : Int) : (stD s kk l k m).ok := by
  unfold stD
  split
  · split
    · exact freeS_ok o _ _
    · exact o
  · split
    · exact askS_ok o _ _ _
    · exact o
theorem stD_va {s : LS} (v : vaS s = true) (kk l k m : Int) : vaS (stD s kk l k m) = true := by
  unfold stD
  split
  · split
    · exact freeS_va v _ _
    · exact v
  · split
    · exact askS_va v _ _ _
    · exact v
theorem runD_ok (KK L S M : Nat → Int) : ∀ i, (runD KK L S M i).ok
  | 0 => zS_ok
  | i + 1 => stD_ok (runD_ok KK L S M i) _ _ _ _
theorem runD_va (KK L S M : Nat → Int) : ∀ i, vaS (runD KK L S M i) = true
  | 0 => zS_va
  | i + 1 => stD_va (runD_va KK L S M i) _ _ _ _
theorem d9_lp (n : Nat) (KK L S M : Nat → Int) (k : Int) (hn : n ≤ 1152921504606846976) : LDoes Try.prog (loopAt Try.prog 9 0) 128 1 (mkT [(1, .i .i64 k), (5, .p 0 0), (24, .sv 4 n (opC KK L S M)), (25, .i .i64 (Int.ofNat n)), (26, .i .i64 0)]) [some tzO] (.exit 0) (mkT [(1, .i .i64 k), (5, .p 0 0)]) [some (tsS (runD KK L S M (min n 201)).ts)] := by
  have key := loop_indV (P := Try.prog) (c := loopAt Try.prog 9 0) (n := 128) (b := 1) (x := .exit 0) (l' := [(1, .i .i64 k), (5, .p 0 0)]) (objs' := [some (tsS (runD KK L S M (min n 201)).ts)]) (D := Nat)
    (fun i : Nat => ([(1, .i .i64 k), (5, .p 0 0), (24, .sv 4 n (opC KK L S M)), (25, .i .i64 (Int.ofNat n)), (26, .i .i64 (Int.ofNat i))], [some (tsS (runD KK L S M i).ts)])) (fun i => n - i) (fun i => i ≤ n ∧ i ≤ 201) (fun i hi => ?_) 0 ⟨Nat.zero_le _, Nat.zero_le _⟩
  · exact key.ovl (objs0 := [some tzO]) ⟨tzO_ov, trivial⟩
  refine ⟨Nat.le_refl _, ?_⟩
  have ok := runD_ok KK L S M i
  by_cases e1 : i = n
  · have h1 : decide (Int.ofNat i < Int.ofNat n) = false := by simp; omega
    refine ⟨_, _, (d9Y_vc (runD KK L S M i).ts n i KK L S M k h1 _).mpr ⟨h1, .inr ⟨[0], [], _, _, _, [some (tsS (runD KK L S M i).ts)], rfl, by simp, st_k [0] (by kernel_rfl), TVL.refl _, ?_⟩⟩⟩
    rw [show min n 201 = i by omega]
    exact OVL.refl _
  have h1 : decide (Int.ofNat i < Int.ofNat n) = true := by simp; omega
  by_cases e2 : i = 201
  · have h2 : decide ((200 : Int) < Int.ofNat i) = true := by simp; omega
    refine ⟨_, _, (d9X_vc (runD KK L S M i).ts n i KK L S M k h1 h2 _).mpr ⟨h1, ⟨by simp, by simp <;> omega⟩, trivial, h2, .inr ⟨[0], [], _, _, _, [some (tsS (runD KK L S M i).ts)], rfl, by simp, st_k [0] (by kernel_rfl), TVL.refl _, ?_⟩⟩⟩
    rw [show min n 201 = i by omega]
    exact OVL.refl _
  have h2 : decide ((200 : Int) < Int.ofNat i) = false := by simp; omega
  by_cases e3 : KK i = 1
  · have h3 : decide (KK (Int.toNat (Int.ofNat i)) = 1) = true := by simpa using e3
    have hc := free_con (runD KK L S M i) ok (L i) (S i)
    by_cases e4 : freeE (runD KK L S M i) (L i) (S i) = 0
    · have h4 : decide (freeE (runD KK L S M i) (L i) (S i) = 0) = true := by simpa using e4
      have er : runD KK L S M (i + 1) = freeS (runD KK L S M i) (L i) (S i) := by rw [runD_s]; unfold stD; rw [if_pos e3, if_pos e4]
      refine ⟨_, _, (d9C_vc (runD KK L S M i).ts (freeS (runD KK L S M i) (L i) (S i)).ts (freeE (runD KK L S M i) (L i) (S i)) n i KK L S M k h1 h2 h3 h4 _).mpr ⟨h1, ⟨by simp, by simp <;> omega⟩, trivial, h2, trivial, trivial, h3, trivial, own_con _ ok, trivial, trivial, hc, h4, trivial, ⟨by simp <;> omega, by simp <;> omega⟩, .inl ⟨i + 1, [0], [], _, _, _, [some (tsW (freeS (runD KK L S M i) (L i) (S i)).ts)], by omega, by show n - (i + 1) < n - i; omega, rfl, st_k [0] (by kernel_rfl), TVL.refl _, ?_⟩⟩⟩
      dsimp only
      rw [er]
      exact ⟨tsW_ov _, trivial⟩
    · have h4 : decide (freeE (runD KK L S M i) (L i) (S i) = 0) = false := by simpa using e4
      have er : runD KK L S M (i + 1) = runD KK L S M i := by rw [runD_s]; unfold stD; rw [if_pos e3, if_neg e4]
      refine ⟨_, _, (d9D_vc (runD KK L S M i).ts (freeS (runD KK L S M i) (L i) (S i)).ts (freeE (runD KK L S M i) (L i) (S i)) n i KK L S M k h1 h2 h3 h4 _).mpr ⟨h1, ⟨by simp, by simp <;> omega⟩, trivial, h2, trivial, trivial, h3, trivial, own_con _ ok, trivial, trivial, hc, h4, ⟨by simp <;> omega, by simp <;> omega⟩, .inl ⟨i + 1, [0], [], _, _, _, [some (tsS (runD KK L S M i).ts)], by omega, by show n - (i + 1) < n - i; omega, rfl, st_k [0] (by kernel_rfl), TVL.refl _, ?_⟩⟩⟩
      dsimp only
      rw [er]
      exact OVL.refl _
  · have h3 : decide (KK (Int.toNat (Int.ofNat i)) = 1) = false := by simpa using e3
    have hc := ask_con (runD KK L S M i) ok (L i) (S i) (M i)
    by_cases e4 : askE (runD KK L S M i) (L i) (S i) (M i) = 0
    · have h4 : decide (askE (runD KK L S M i) (L i) (S i) (M i) = 0) = true := by simpa using e4
      have er : runD KK L S M (i + 1) = askS (runD KK L S M i) (L i) (S i) (M i) := by rw [runD_s]; unfold stD; rw [if_neg e3, if_pos e4]
      refine ⟨_, _, (d9A_vc (runD KK L S M i).ts (askS (runD KK L S M i) (L i) (S i) (M i)).ts (askE (runD KK L S M i) (L i) (S i) (M i)) n i KK L S M k h1 h2 h3 h4 _).mpr ⟨h1, ⟨by simp, by simp <;> omega⟩, trivial, h2, trivial, trivial, h3, trivial, own_con _ ok, trivial, trivial, trivial, hc, h4, trivial, ⟨by simp <;> omega, by simp <;> omega⟩, .inl ⟨i + 1, [0], [], _, _, _, [some (tsW (askS (runD KK L S M i) (L i) (S i) (M i)).ts)], by omega, by show n - (i + 1) < n - i; omega, rfl, st_k [0] (by kernel_rfl), TVL.refl _, ?_⟩⟩⟩
      dsimp only
      rw [er]
      exact ⟨tsW_ov _, trivial⟩
    · have h4 : decide (askE (runD KK L S M i) (L i) (S i) (M i) = 0) = false := by simpa using e4
      have er : runD KK L S M (i + 1) = runD KK L S M i := by rw [runD_s]; unfold stD; rw [if_neg e3, if_neg e4]
      refine ⟨_, _, (d9B_vc (runD KK L S M i).ts (askS (runD KK L S M i) (L i) (S i) (M i)).ts (askE (runD KK L S M i) (L i) (S i) (M i)) n i KK L S M k h1 h2 h3 h4 _).mpr ⟨h1, ⟨by simp, by simp <;> omega⟩, trivial, h2, trivial, trivial, h3, trivial, own_con _ ok, trivial, trivial, trivial, hc, h4, ⟨by simp <;> omega, by simp <;> omega⟩, .inl ⟨i + 1, [0], [], _, _, _, [some (tsS (runD KK L S M i).ts)], by omega, by show n - (i + 1) < n - i; omega, rfl, st_k [0] (by kernel_rfl), TVL.refl _, ?_⟩⟩⟩
      dsimp only
      rw [er]
      exact OVL.refl _
theorem d9b_vc (t : TS) (u : TS) (l n i : Nat) (A M W : Nat → Int) (k : Int) (h1 : decide (Int.ofNat i < Int.ofNat n) = true) (h2 : decide (A (Int.toNat (Int.ofNat i)) = k) = false) (K : Res → Orc → Prop) : runK Try.prog 1000000 (.code (loopAt Try.prog 9 3) 128 (mkT [(1, .i .i64 k), (5, .p 0 0), (10, .p 1 0), (79, .i .i64 (Int.ofNat l)), (116, svN n A M W), (117, .i .i64 (Int.ofNat n)), (118, .i .i64 (Int.ofNat i))]) (mkH [some (tsS t), some (tsS u)])) (Orc.t (Orc.f Orc.z)) K = (decide (Int.ofNat i < Int.ofNat n) = true ∧ (0 ≤ Int.ofNat i ∧ Int.ofNat i < ↑n) ∧ True ∧ True ∧ decide (A i = k) = false ∧ ((-9223372036854775808) ≤ Int.ofNat i + 1 ∧ Int.ofNat i + (1 : Int) ≤ (9223372036854775807 : Int)) ∧ K (Res.st XO.nrm (z0 (z1 (AV.i .i64 k) (z0 (z0 (z1 (AV.p 2 0) T.e (z0 (zl (AV.i .i64 (Int.ofNat l))) T.e)) (z0 T.e (z0 T.e (zl (AV.b (decide (Int.ofNat i < Int.ofNat n))))))) (z0 T.e (z0 T.e
  (z0 T.e (zl (AV.i .i64 (A i))))))) (z1 (AV.p 0 0) (z0 T.e (z0 T.e (z0 T.e (zl (AV.agg [AV.i .i64 (A i), AV.i .i64 (M i), AV.i .i64 (W i)]))))) (z0 (z0 T.e (z0 T.e (zl (AV.i .i64 (Int.ofNat n))))) (z0 T.e (z0 T.e (zl (AV.b (decide (A i = k))))))))) (z0 (z0 (z0 T.e (z0 T.e (z0 T.e (zl (AV.pv 3 (qF A M W i)))))) (z0 (z0 T.e (z0 T.e (zl (AV.sv 3 n (qF A M W))))) (z0 T.e (z0 T.e (zl (AV.i .i64 k)))))) (z0 (z1 (AV.p 1 0) T.e (z0 T.e (z0 T.e (zl (AV.p 2 0))))) (z0 (z0 T.e (z0 T.e (zl (AV.i .i64 (Int.ofNat i + 1))))) (z0 T.e (z0 T.e (zl (AV.i .i64 (Int.ofNat i + 1))))))))) ⟨z1 (tsS t) (zl (tsS u)) (zl (AObj.cells 61 3 [AV.i .i64 0, AV.i .i64 0, AV.i .i64 0] (z1 (AV.i .i64 (A i)) (zl (AV.i .i64 (M i))) (zl (AV.i .i64 (W i)))))), 3, [2, 2]⟩) Orc.z) := by kernel_rfl
theorem d9c_vc (t : TS) (u : TS) (l n i : Nat) (A M W : Nat → Int) (k : Int) (h1 : decide (Int.ofNat i < Int.ofNat n) = false) (K : Res → Orc → Prop) : runK Try.prog 1000000 (.code (loopAt Try.prog 9 3) 128 (mkT [(1, .i .i64 k), (5, .p 0 0), (10, .p 1 0), (79, .i .i64 (Int.ofNat l)), (116, svN n A M W), (117, .i .i64 (Int.ofNat n)), (118, .i .i64 (Int.ofNat i))]) (mkH [some (tsS t), some (tsS u)])) (Orc.f Orc.z) K = (decide (Int.ofNat i < Int.ofNat n) = false ∧ K (Res.st (XO.exit 6) (z0 (z1 (AV.i .i64 k) (z0 (z0 (z0 T.e (z0 (zl (AV.i .i64 (Int.ofNat l))) T.e)) (z0 T.e (z0 T.e (zl (AV.b (decide (Int.ofNat i < Int.ofNat n))))))) T.e) (z1 (AV.p 0 0) T.e (z0 (z0 T.e (z0 T.e (zl (AV.i .i64 (Int.ofNat n))))) T.e))) (z0 (z0 T.e (z0 (z0 T.e (z0 T.e (zl (AV.sv 3 n (qF A M W))))) T.e)) (z0 (zl (AV.p 1 0)) (z0 (z0 T.e (z0 T.e (zl (AV.i .i64 (Int.ofNat i))))) T.e)))) ⟨z1 (tsS t) (zl (tsS u)) T.e, 2,
  []⟩) Orc.z) := by kernel_rfl
theorem d9R0_vc (t : TS) (u : TS) (l : Nat) (h1 : decide (Int.ofNat l < 19) = true) (h2 : (!decide (u.h l 0 = 0)) = false) (h3 : decide (u.h l 1 < t.h l 1) = false) (h4 : decide (u.h l 2 < t.h l 2) = false) (K : Res → Orc → Prop) : runK Try.prog 1000000 (.code (loopAt Try.prog 9 1) 128 (mkT [(1, .i .i64 0), (5, .p 0 0), (10, .p 1 0), (79, .i .i64 (Int.ofNat l))]) (mkH [some (tsS t), some (tsS u)])) (Orc.t (Orc.s (Orc.inl (oc 5 (Orc.t (Orc.t (Orc.t (Orc.t (oc 8 (Orc.t (Orc.c (Orc.f (Orc.c (Orc.inl (oc 14 (Orc.s (Orc.c (Orc.s (oc 5 (Orc.f (Orc.inl (oc 14 (Orc.s (Orc.c (Orc.s (oc 5 (Orc.f (Orc.inl (Orc.c (Orc.s (Orc.lop [0, 1] [1, 5, 10, 79, 116, 117, 118] 2 (XO.exit 6) [(1, AV.i .i64 0), (5, AV.p 0 0), (10, AV.p 1 0), (79, AV.i .i64 (Int.ofNat l))] [some (tsS t), some (tsS u)] Orc.z) Orc.z))))) Orc.z)) Orc.z))))) Orc.z)) Orc.z)))))))))))))) Orc.z)) K = (decide (Int.ofNat l < 19) = true ∧
  True ∧ (0 ≤ Int.ofNat l ∧ Int.ofNat l < 19) ∧ l < 19 ∧ (!!decide (TS.h u l 0 = 0)) = true ∧ (!!decide (TS.h u l 0 = 0)) = true ∧ (!!decide (TS.h u l 0 = 0)) = true ∧ (!!decide (TS.h u l 0 = 0)) = true ∧ (!!decide (TS.h u l 0 = 0)) = true ∧ (!decide (TS.h u l 0 = 0)) = false ∧ ((-9223372036854775808 : Int) ≤ (1 : Int) ∧ (1 : Int) ≤ (9223372036854775807 : Int)) ∧ True ∧ (0 ≤ Int.ofNat l ∧ Int.ofNat l < 19) ∧ ((0 : Int) ≤ (1 : Int) ∧ (1 : Int) < (3 : Int)) ∧ l < 19 ∧ decide (TS.h u l 1 < TS.h t l 1) = false ∧ ((-9223372036854775808 : Int) ≤ (2 : Int) ∧ (2 : Int) ≤ (9223372036854775807 : Int)) ∧ True ∧ (0 ≤ Int.ofNat l ∧ Int.ofNat l < 19) ∧ ((0 : Int) ≤ (2 : Int) ∧ (2 : Int) < (3 : Int)) ∧ l < 19 ∧ decide (TS.h u l 2 < TS.h t l 2) = false ∧ ((-9223372036854775808 : Int) ≤ (3 : Int) ∧ (3 : Int) ≤ (9223372036854775807 : Int)) ∧ True ∧ (0 ≤ Int.ofNat l ∧ Int.ofNat l < 19) ∧ l < 19 ∧ LDoes
  Try.prog (loopAt Try.prog 9 3) 128 2 (mkT [(1, AV.i .i64 0), (5, AV.p 0 0), (10, AV.p 1 0), (79, AV.i .i64 (Int.ofNat l)), (116, svN (TS.n u l) (TS.A u (Int.toNat (Int.ofNat l))) (TS.M u (Int.toNat (Int.ofNat l))) (TS.W u (Int.toNat (Int.ofNat l)))), (117, AV.i .i64 (Int.ofNat (TS.n u l))), (118, AV.i .i64 0)]) [some (tsS t), some (tsS u)] (XO.exit 6) (mkT [(1, AV.i .i64 0), (5, AV.p 0 0), (10, AV.p 1 0), (79, AV.i .i64 (Int.ofNat l))]) [some (tsS t), some (tsS u)] ∧ ((-9223372036854775808) ≤ Int.ofNat l + 1 ∧ Int.ofNat l + (1 : Int) ≤ (9223372036854775807 : Int)) ∧ K (Res.st XO.nrm (z0 (z1 (AV.i .i64 0) (z0 (z0 (z0 (z0 (z0 (zl (AV.i .i64 (Int.ofNat l + 1))) T.e) T.e) (z0 (zl (AV.i .i64 (Int.ofNat l + 1))) T.e)) T.e) T.e) (zl (AV.p 0 0))) (z0 T.e (z0 (zl (AV.p 1 0)) T.e))) ⟨z1 (tsS t) (zl (tsS u)) T.e, 2, [1, 0]⟩) Orc.z) := by kernel_rfl
theorem d9R1_vc (t : TS) (u : TS) (l : Nat) (h1 : decide (Int.ofNat l < 19) = true) (h2 : decide (u.h l 0 < t.h l 0) = false) (h3 : (!decide (u.h l 1 = 0)) = false) (h4 : decide (u.h l 2 < t.h l 2) = false) (K : Res → Orc → Prop) : runK Try.prog 1000000 (.code (loopAt Try.prog 9 1) 128 (mkT [(1, .i .i64 1), (5, .p 0 0), (10, .p 1 0), (79, .i .i64 (Int.ofNat l))]) (mkH [some (tsS t), some (tsS u)])) (Orc.t (Orc.s (Orc.inl (oc 14 (Orc.s (Orc.c (Orc.s (oc 5 (Orc.f (Orc.inl (oc 5 (Orc.t (Orc.t (Orc.t (Orc.t (oc 8 (Orc.t (Orc.c (Orc.f (Orc.c (Orc.inl (oc 14 (Orc.s (Orc.c (Orc.s (oc 5 (Orc.f (Orc.inl (Orc.c (Orc.s (Orc.lop [0, 1] [1, 5, 10, 79, 116, 117, 118] 2 (XO.exit 6) [(1, AV.i .i64 1), (5, AV.p 0 0), (10, AV.p 1 0), (79, AV.i .i64 (Int.ofNat l))] [some (tsS t), some (tsS u)] Orc.z) Orc.z))))) Orc.z)) Orc.z)))))))))))))))) Orc.z)) Orc.z))) Orc.z)) K = (decide (Int.ofNat l < 19) = true ∧
  True ∧ (0 ≤ Int.ofNat l ∧ Int.ofNat l < 19) ∧ l < 19 ∧ True ∧ (0 ≤ Int.ofNat l ∧ Int.ofNat l < 19) ∧ ((0 : Int) ≤ (0 : Int) ∧ (0 : Int) < (3 : Int)) ∧ l < 19 ∧ decide (TS.h u l 0 < TS.h t l 0) = false ∧ ((-9223372036854775808 : Int) ≤ (1 : Int) ∧ (1 : Int) ≤ (9223372036854775807 : Int)) ∧ (!!decide (TS.h u l 1 = 0)) = true ∧ (!!decide (TS.h u l 1 = 0)) = true ∧ (!!decide (TS.h u l 1 = 0)) = true ∧ (!!decide (TS.h u l 1 = 0)) = true ∧ (!!decide (TS.h u l 1 = 0)) = true ∧ (!decide (TS.h u l 1 = 0)) = false ∧ ((-9223372036854775808 : Int) ≤ (2 : Int) ∧ (2 : Int) ≤ (9223372036854775807 : Int)) ∧ True ∧ (0 ≤ Int.ofNat l ∧ Int.ofNat l < 19) ∧ ((0 : Int) ≤ (2 : Int) ∧ (2 : Int) < (3 : Int)) ∧ l < 19 ∧ decide (TS.h u l 2 < TS.h t l 2) = false ∧ ((-9223372036854775808 : Int) ≤ (3 : Int) ∧ (3 : Int) ≤ (9223372036854775807 : Int)) ∧ True ∧ (0 ≤ Int.ofNat l ∧ Int.ofNat l < 19) ∧ l < 19 ∧ LDoes
  Try.prog (loopAt Try.prog 9 3) 128 2 (mkT [(1, AV.i .i64 1), (5, AV.p 0 0), (10, AV.p 1 0), (79, AV.i .i64 (Int.ofNat l)), (116, svN (TS.n u l) (TS.A u (Int.toNat (Int.ofNat l))) (TS.M u (Int.toNat (Int.ofNat l))) (TS.W u (Int.toNat (Int.ofNat l)))), (117, AV.i .i64 (Int.ofNat (TS.n u l))), (118, AV.i .i64 0)]) [some (tsS t), some (tsS u)] (XO.exit 6) (mkT [(1, AV.i .i64 1), (5, AV.p 0 0), (10, AV.p 1 0), (79, AV.i .i64 (Int.ofNat l))]) [some (tsS t), some (tsS u)] ∧ ((-9223372036854775808) ≤ Int.ofNat l + 1 ∧ Int.ofNat l + (1 : Int) ≤ (9223372036854775807 : Int)) ∧ K (Res.st XO.nrm (z0 (z1 (AV.i .i64 1) (z0 (z0 (z0 (z0 (z0 (zl (AV.i .i64 (Int.ofNat l + 1))) T.e) T.e) (z0 (zl (AV.i .i64 (Int.ofNat l + 1))) T.e)) T.e) T.e) (zl (AV.p 0 0))) (z0 T.e (z0 (zl (AV.p 1 0)) T.e))) ⟨z1 (tsS t) (zl (tsS u)) T.e, 2, [1, 0]⟩) Orc.z) := by kernel_rfl
theorem d9R2_vc (t : TS) (u : TS) (l : Nat) (h1 : decide (Int.ofNat l < 19) = true) (h2 : decide (u.h l 0 < t.h l 0) = false) (h3 : decide (u.h l 1 < t.h l 1) = false) (h4 : (!decide (u.h l 2 = 0)) = false) (K : Res → Orc → Prop) : runK Try.prog 1000000 (.code (loopAt Try.prog 9 1) 128 (mkT [(1, .i .i64 2), (5, .p 0 0), (10, .p 1 0), (79, .i .i64 (Int.ofNat l))]) (mkH [some (tsS t), some (tsS u)])) (Orc.t (Orc.s (Orc.inl (oc 14 (Orc.s (Orc.c (Orc.s (oc 5 (Orc.f (Orc.inl (oc 14 (Orc.s (Orc.c (Orc.s (oc 5 (Orc.f (Orc.inl (oc 5 (Orc.t (Orc.t (Orc.t (Orc.t (oc 8 (Orc.t (Orc.c (Orc.f (Orc.c (Orc.inl (Orc.c (Orc.s (Orc.lop [0, 1] [1, 5, 10, 79, 116, 117, 118] 2 (XO.exit 6) [(1, AV.i .i64 2), (5, AV.p 0 0), (10, AV.p 1 0), (79, AV.i .i64 (Int.ofNat l))] [some (tsS t), some (tsS u)] Orc.z) Orc.z)))))))))))))))) Orc.z)) Orc.z))))) Orc.z)) Orc.z))) Orc.z)) K = (decide (Int.ofNat l < 19) = true ∧
  True ∧ (0 ≤ Int.ofNat l ∧ Int.ofNat l < 19) ∧ l < 19 ∧ True ∧ (0 ≤ Int.ofNat l ∧ Int.ofNat l < 19) ∧ ((0 : Int) ≤ (0 : Int) ∧ (0 : Int) < (3 : Int)) ∧ l < 19 ∧ decide (TS.h u l 0 < TS.h t l 0) = false ∧ ((-9223372036854775808 : Int) ≤ (1 : Int) ∧ (1 : Int) ≤ (9223372036854775807 : Int)) ∧ True ∧ (0 ≤ Int.ofNat l ∧ Int.ofNat l < 19) ∧ ((0 : Int) ≤ (1 : Int) ∧ (1 : Int) < (3 : Int)) ∧ l < 19 ∧ decide (TS.h u l 1 < TS.h t l 1) = false ∧ ((-9223372036854775808 : Int) ≤ (2 : Int) ∧ (2 : Int) ≤ (9223372036854775807 : Int)) ∧ (!!decide (TS.h u l 2 = 0)) = true ∧ (!!decide (TS.h u l 2 = 0)) = true ∧ (!!decide (TS.h u l 2 = 0)) = true ∧ (!!decide (TS.h u l 2 = 0)) = true ∧ (!!decide (TS.h u l 2 = 0)) = true ∧ (!decide (TS.h u l 2 = 0)) = false ∧ ((-9223372036854775808 : Int) ≤ (3 : Int) ∧ (3 : Int) ≤ (9223372036854775807 : Int)) ∧ True ∧ (0 ≤ Int.ofNat l ∧ Int.ofNat l < 19) ∧ l < 19 ∧ LDoes
  Try.prog (loopAt Try.prog 9 3) 128 2 (mkT [(1, AV.i .i64 2), (5, AV.p 0 0), (10, AV.p 1 0), (79, AV.i .i64 (Int.ofNat l)), (116, svN (TS.n u l) (TS.A u (Int.toNat (Int.ofNat l))) (TS.M u (Int.toNat (Int.ofNat l))) (TS.W u (Int.toNat (Int.ofNat l)))), (117, AV.i .i64 (Int.ofNat (TS.n u l))), (118, AV.i .i64 0)]) [some (tsS t), some (tsS u)] (XO.exit 6) (mkT [(1, AV.i .i64 2), (5, AV.p 0 0), (10, AV.p 1 0), (79, AV.i .i64 (Int.ofNat l))]) [some (tsS t), some (tsS u)] ∧ ((-9223372036854775808) ≤ Int.ofNat l + 1 ∧ Int.ofNat l + (1 : Int) ≤ (9223372036854775807 : Int)) ∧ K (Res.st XO.nrm (z0 (z1 (AV.i .i64 2) (z0 (z0 (z0 (z0 (z0 (zl (AV.i .i64 (Int.ofNat l + 1))) T.e) T.e) (z0 (zl (AV.i .i64 (Int.ofNat l + 1))) T.e)) T.e) T.e) (zl (AV.p 0 0))) (z0 T.e (z0 (zl (AV.p 1 0)) T.e))) ⟨z1 (tsS t) (zl (tsS u)) T.e, 2, [1, 0]⟩) Orc.z) := by kernel_rfl
theorem d9Z_vc (t : TS) (u : TS) (k : Int) (K : Res → Orc → Prop) : runK Try.prog 1000000 (.code (loopAt Try.prog 9 1) 128 (mkT [(1, .i .i64 k), (5, .p 0 0), (10, .p 1 0), (79, .i .i64 19)]) (mkH [some (tsS t), some (tsS u)])) (Orc.c Orc.z) K = (K (Res.st (XO.exit 2) (z0 (z1 (AV.i .i64 k) (z0 (z0 (z0 T.e (z0 (zl (AV.i .i64 19)) T.e)) T.e) T.e) (zl (AV.p 0 0))) (z0 (z0 (z0 (z0 T.e (z0 (zl (AV.b false)) T.e)) T.e) T.e) (z0 (zl (AV.p 1 0)) T.e))) ⟨z1 (tsS t) (zl (tsS u)) T.e, 2, []⟩) Orc.z) := by kernel_rfl
theorem d9M_vc (t : TS) (u1 : TS) (n : Nat) (KK L S M : Nat → Int) (k : Int) (h1 : decide (k < 0) = false) (h2 : decide (2 < k) = false) (V : AV) : runK Try.prog 1000000 (.call 9 [.sv 4 n (opC KK L S M), .i .i64 k] (mkH [])) (Orc.cal [] (AV.b true) [] (Orc.c (Orc.t (Orc.t (Orc.f (Orc.f (Orc.lop [0] [1, 5, 24, 25, 26] 1 (XO.exit 0) [(1, AV.i .i64 k), (5, AV.p 0 0)] [some (tsS t)] (Orc.cal [] (tsV t) [] (Orc.cal [] (tsV u1) [] (Orc.cal [] (tsV u1) [] (Orc.cal [] (svN 0 (fun x => 0) (fun x => 0) fun x => 0) [] (oc 2 (Orc.cal [] (tsV u1) [] (Orc.c (Orc.cal [] (AV.b true) [] (oc 3 (Orc.lop [0, 1] [1, 5, 10, 79] 2 (XO.exit 2) [] [some (tsS t), some (tsS u1)] Orc.z))))))))))))))))) (fun r _ => rvIs V r) = (Con Try.prog 12 [] [] (AV.b true) [] ∧ True ∧ (!decide (k < 0)) = true ∧ (!decide (k < 0)) = true ∧ decide (k < 0) = false ∧ decide (2 < k) = false ∧ LDoes Try.prog (loopAt Try.prog 9 0) 128
  1 (mkT [(1, AV.i .i64 k), (5, AV.p 0 0), (24, AV.sv 4 n (opC KK L S M)), (25, AV.i .i64 (Int.ofNat n)), (26, AV.i .i64 0)]) [some tzO] (XO.exit 0) (mkT [(1, AV.i .i64 k), (5, AV.p 0 0)]) [some (tsS t)] ∧ True ∧ Con Try.prog 15 [tsV t] [] (tsV t) [] ∧ Con Try.prog 19 [tsV t, AV.i .i64 k] [] (tsV u1) [] ∧ Con Try.prog 15 [tsV u1] [] (tsV u1) [] ∧ Con Try.prog 14 [tsV u1, AV.i .i64 k] [] (svN 0 (fun x => 0) (fun x => 0) fun x => 0) [] ∧ Con Try.prog 15 [tsV u1] [] (tsV u1) [] ∧ Con Try.prog 13 [tsV u1] [] (AV.b true) [] ∧ True ∧ LDoes Try.prog (loopAt Try.prog 9 1) 128 2 (mkT [(1, AV.i .i64 k), (5, AV.p 0 0), (10, AV.p 1 0), (79, AV.i .i64 0)]) [some (tsS t), some (tsZ u1)] (XO.exit 2) (mkT []) [some (tsS t), some (tsS u1)] ∧ (AV.b true) = V) := by kernel_rfl
theorem d9M0_vc (n : Nat) (KK L S M : Nat → Int) (k : Int) (h1 : decide (k < 0) = true) (V : AV) : runK Try.prog 1000000 (.call 9 [.sv 4 n (opC KK L S M), .i .i64 k] (mkH [])) (Orc.cal [] (AV.b true) [] (Orc.c (Orc.f (Orc.f (Orc.t (Orc.c Orc.z)))))) (fun r _ => rvIs V r) = (Con Try.prog 12 [] [] (AV.b true) [] ∧ True ∧ (!decide (k < 0)) = false ∧ (!decide (k < 0)) = false ∧ decide (k < 0) = true ∧ (AV.b true) = V) := by kernel_rfl
theorem d9M1_vc (n : Nat) (KK L S M : Nat → Int) (k : Int) (h1 : decide (k < 0) = false) (h2 : decide (2 < k) = true) (V : AV) : runK Try.prog 1000000 (.call 9 [.sv 4 n (opC KK L S M), .i .i64 k] (mkH [])) (Orc.cal [] (AV.b true) [] (Orc.c (Orc.t (Orc.t (Orc.f (Orc.t Orc.z)))))) (fun r _ => rvIs V r) = (Con Try.prog 12 [] [] (AV.b true) [] ∧ True ∧ (!decide (k < 0)) = true ∧ (!decide (k < 0)) = true ∧ decide (k < 0) = false ∧ decide (2 < k) = true ∧ (AV.b true) = V) := by kernel_rfl
theorem d9b_lp (t u : TS) (l n : Nat) (A M W : Nat → Int) (k : Int) (hn : n ≤ 1152921504606846976) (hA : ∀ i, i < n → A i ≠ k) : LDoes Try.prog (loopAt Try.prog 9 3) 128 2 (mkT [(1, .i .i64 k), (5, .p 0 0), (10, .p 1 0), (79, .i .i64 (Int.ofNat l)), (116, svN n A M W), (117, .i .i64 (Int.ofNat n)), (118, .i .i64 0)]) [some (tsS t), some (tsS u)] (.exit 6) (mkT [(1, .i .i64 k), (5, .p 0 0), (10, .p 1 0), (79, .i .i64 (Int.ofNat l))]) [some (tsS t), some (tsS u)] := by
  refine loop_ind (fun i : Nat => ([(1, .i .i64 k), (5, .p 0 0), (10, .p 1 0), (79, .i .i64 (Int.ofNat l)), (116, svN n A M W), (117, .i .i64 (Int.ofNat n)), (118, .i .i64 (Int.ofNat i))], [some (tsS t), some (tsS u)])) (fun i => n - i) (fun i => i ≤ n) ?_ 0 (Nat.zero_le _)
  intro i hi
  refine ⟨Nat.le_refl _, ?_⟩
  by_cases e : i = n
  · have h1 : decide (Int.ofNat i < Int.ofNat n) = false := by simp; omega
    exact ⟨_, _, (d9c_vc t u l n i A M W k h1 _).mpr ⟨h1, .inr ⟨[0, 1], [], _, _, rfl, by simp, st_k [0, 1] (by kernel_rfl)⟩⟩⟩
  · have h1 : decide (Int.ofNat i < Int.ofNat n) = true := by simp; omega
    have h2 : decide (A (Int.toNat (Int.ofNat i)) = k) = false := by
      have := hA i (by omega); simpa using this
    refine ⟨_, _, (d9b_vc t u l n i A M W k h1 h2 _).mpr ?_⟩
    refine ⟨h1, ⟨by simp, by simp <;> omega⟩, trivial, trivial, h2, ⟨by simp <;> omega, by simp <;> omega⟩, .inl ⟨i + 1, [0, 1], [], _, _, by omega, by show n - (i + 1) < n - i; omega, rfl, st_k [0, 1] (by kernel_rfl)⟩⟩
structure Dropped (t u : LS) (k : Int) : Prop where
  free : ∀ l, l < 19 → hx (u.row l).h k = 0
  keep : ∀ l b, l < 19 → 0 ≤ b ∧ b < 3 → b ≠ k → hx (t.row l).h b ≤ hx (u.row l).h b
  gone : ∀ l, l < 19 → ∀ x ∈ (u.row l).q, x.a ≠ k
theorem d9_lp2 (t u : LS) (ou : u.ok) (k : Int) (hk : 0 ≤ k ∧ k < 3) (d : Dropped t u k) : LDoes Try.prog (loopAt Try.prog 9 1) 128 2 (mkT [(1, .i .i64 k), (5, .p 0 0), (10, .p 1 0), (79, .i .i64 0)]) [some (tsS t.ts), some (tsZ u.ts)] (.exit 2) (mkT []) [some (tsS t.ts), some (tsS u.ts)] := by
  have key := loop_ind (P := Try.prog) (c := loopAt Try.prog 9 1) (n := 128) (b := 2) (x := .exit 2) (l' := []) (objs' := [some (tsS t.ts), some (tsS u.ts)]) (D := Nat) (fun l : Nat => ([(1, .i .i64 k), (5, .p 0 0), (10, .p 1 0), (79, .i .i64 (Int.ofNat l))], [some (tsS t.ts), some (tsS u.ts)])) (fun l => 19 - l) (fun l => l ≤ 19) (fun l hl => ?_) 0 (Nat.zero_le _)
  · exact key.ovl (objs0 := [some (tsS t.ts), some (tsZ u.ts)]) ⟨.refl _, tsZ_ov _ _, trivial⟩
  refine ⟨Nat.le_refl _, ?_⟩
  by_cases e : l = 19
  · subst e
    exact ⟨_, _, (d9Z_vc t.ts u.ts k _).mpr (.inr ⟨[0, 1], [], _, _, rfl, by simp, st_k [0, 1] (by kernel_rfl)⟩)⟩
  have h1 : decide (Int.ofNat l < 19) = true := by simp <;> omega
  have hlt : l < 19 := by omega
  have hb : (0 : Int) ≤ Int.ofNat l ∧ Int.ofNat l < (19 : Int) := ⟨by simp, by simp <;> omega⟩
  have hq : ∀ i, i < (u.row l).q.length → qA (u.row l).q i ≠ k := fun i hi => by
    rw [qA_lt hi]; exact d.gone l hlt _ (List.getElem_mem hi)
  have hlp := d9b_lp t.ts u.ts l (u.row l).q.length (qA (u.row l).q) (qM (u.row l).q) (qW (u.row l).q) k (by have := ou.q l; have e : u.ts.n l = (u.row l).q.length := rfl; omega) hq
  rcases three hk with rfl | rfl | rfl
  · have f0 : u.ts.h l 0 = 0 := d.free l hlt
    have f1 : t.ts.h l 1 ≤ u.ts.h l 1 := d.keep l 1 hlt (by omega) (by omega)
    have f2 : t.ts.h l 2 ≤ u.ts.h l 2 := d.keep l 2 hlt (by omega) (by omega)
    have g0 : (!decide (u.ts.h l 0 = 0)) = false := by simp [f0]
    have g1 : decide (u.ts.h l 1 < t.ts.h l 1) = false := by simp; omega
    have g2 : decide (u.ts.h l 2 < t.ts.h l 2) = false := by simp; omega
    have g0' : (!!decide (u.ts.h l 0 = 0)) = true := by rw [g0]; rfl
    exact ⟨_, _, (d9R0_vc t.ts u.ts l h1 g0 g1 g2 _).mpr ⟨h1, trivial, hb, hlt, g0', g0', g0', g0', g0', g0, ⟨by decide, by decide⟩, trivial, hb, ⟨by decide, by decide⟩, hlt, g1, ⟨by decide, by decide⟩, trivial, hb, ⟨by decide, by decide⟩, hlt, g2, ⟨by decide, by decide⟩, trivial, hb, hlt, hlp, ⟨by simp <;> omega, by simp <;> omega⟩, .inl ⟨l + 1, [0, 1], [], _, _, by omega, by show 19 - (l + 1) < 19 - l; omega, rfl, st_k [0, 1] (by kernel_rfl)⟩⟩⟩
  · have f0 : u.ts.h l 1 = 0 := d.free l hlt
    have f1 : t.ts.h l 0 ≤ u.ts.h l 0 := d.keep l 0 hlt (by omega) (by omega)
    have f2 : t.ts.h l 2 ≤ u.ts.h l 2 := d.keep l 2 hlt (by omega) (by omega)
    have g0 : (!decide (u.ts.h l 1 = 0)) = false := by simp [f0]
    have g1 : decide (u.ts.h l 0 < t.ts.h l 0) = false := by simp; omega
    have g2 : decide (u.ts.h l 2 < t.ts.h l 2) = false := by simp; omega
    have g0' : (!!decide (u.ts.h l 1 = 0)) = true := by rw [g0]; rfl
    refine ⟨_, _, (d9R1_vc t.ts u.ts l h1 g1 g0 g2 _).mpr ?_⟩
    repeat' first | exact trivial | exact h1 | exact hb | exact hlt | exact g0' | exact g0 | exact g1 | exact g2 | exact hlp | exact .inl ⟨l + 1, [0, 1], [], _, _, by omega, by show 19 - (l + 1) < 19 - l; omega, rfl, st_k [0, 1] (by kernel_rfl)⟩ | apply And.intro | (simp <;> omega)
  · have f0 : u.ts.h l 2 = 0 := d.free l hlt
    have f1 : t.ts.h l 0 ≤ u.ts.h l 0 := d.keep l 0 hlt (by omega) (by omega)
    have f2 : t.ts.h l 1 ≤ u.ts.h l 1 := d.keep l 1 hlt (by omega) (by omega)
    have g0 : (!decide (u.ts.h l 2 = 0)) = false := by simp [f0]
    have g1 : decide (u.ts.h l 0 < t.ts.h l 0) = false := by simp; omega
    have g2 : decide (u.ts.h l 1 < t.ts.h l 1) = false := by simp; omega
    have g0' : (!!decide (u.ts.h l 2 = 0)) = true := by rw [g0]; rfl
    refine ⟨_, _, (d9R2_vc t.ts u.ts l h1 g1 g2 g0 _).mpr ?_⟩
    repeat' first | exact trivial | exact h1 | exact hb | exact hlt | exact g0' | exact g0 | exact g1 | exact g2 | exact hlp | exact .inl ⟨l + 1, [0, 1], [], _, _, by omega, by show 19 - (l + 1) < 19 - l; omega, rfl, st_k [0, 1] (by kernel_rfl)⟩ | apply And.intro | (simp <;> omega)
theorem dropS_row {s : LS} (v : vaS s = true) {k : Int} (hk : 0 ≤ k ∧ k < 3) {l : Nat} (hl : l < 19) : (dropS s k).row l = onR (freeR (s.row l) k) := by
  have c : isServerB k = true := by simp [isServerB]; exact hk
  unfold dropS
  rw [c, v]
  simp only [Bool.and_self, cond_true]
  unfold dropN
  have : Nat.blt l 19 = true := by rw [Nat.blt_eq]; exact hl
  simp only [this, cond_true]
theorem onR_free {r : Rw} (w : RowW r) {k : Int} (hk : 0 ≤ k ∧ k < 3) : hx (onR (freeR r k)).h k = 0 ∧ (∀ b, 0 ≤ b ∧ b < 3 → b ≠ k → hx r.h b ≤ hx (onR (freeR r k)).h b) ∧ ∀ x ∈ (onR (freeR r k)).q, x.a ≠ k := by
  have wf := free_w w hk
  have e : onR (freeR r k) = goL (setH r.h k 0) (rmQ k r.q) := by rw [freeR_eq]; rfl
  rw [freeR_eq] at wf
  obtain ⟨p, p1, p2, p3⟩ := goL_spec (rmQ k r.q) (setH r.h k 0) wf
  rw [e]
  refine ⟨?_, fun b hb hne => ?_, fun x hx9 => ?_⟩
  · rw [p3 k hk fun x hx9 => rmQ_ne k r.q w.once x (by rw [p1]; exact List.mem_append_left _ hx9), hx_set _ _ hk hk, if_pos rfl]
  · have := goL_mono wf hb
    rwa [hx_set _ _ hk hb, if_neg hne] at this
  · exact rmQ_ne k r.q w.once x (by rw [p1]; exact List.mem_append_right _ hx9)
theorem dropped {s : LS} (v : vaS s = true) {k : Int} (hk : 0 ≤ k ∧ k < 3) : Dropped s (dropS s k) k where
  free := fun l hl => by rw [dropS_row v hk hl]; exact (onR_free (mayB_ok (va_row v hl)).w.1 hk).1
  keep := fun l b hl hb hne => by rw [dropS_row v hk hl]; exact (onR_free (mayB_ok (va_row v hl)).w.1 hk).2.1 b hb hne
  gone := fun l hl x hx9 => by rw [dropS_row v hk hl] at hx9; exact (onR_free (mayB_ok (va_row v hl)).w.1 hk).2.2 x hx9
theorem hld_nil {s : LS} {k : Int} (h : ∀ l, l < 19 → hx (s.row l).h k = 0) : hldS s k = [] := by
  have key : ∀ l, l ≤ 19 → hldN s k l = [] := by
    intro l
    induction l with
    | zero => intro _; rfl
    | succ l ih => intro hl; rw [hldN_s, ih (by omega), if_pos (h l (by omega))]; rfl
  unfold hldS
  rw [key 19 (Nat.le_refl _)]
  cases (isServerB k && vaS s) <;> rfl
theorem law9_con (n : Nat) (KK L S M : Nat → Int) (k : Int) (hn : n ≤ 1152921504606846976) : Con Try.prog 9 [.sv 4 n (opC KK L S M), .i .i64 k] [] (.b true) [] := by
  by_cases c0 : k < 0
  · have h1 : decide (k < 0) = true := by simpa using c0
    refine con_pureX (d9M0_vc n KK L S M k h1 _) rfl ?_
    repeat' first | exact awake_con | exact trivial | exact rfl | (simp only [h1, Bool.not_true, Bool.not_false]; done) | apply And.intro
  have h1 : decide (k < 0) = false := by simpa using c0
  by_cases c1 : 2 < k
  · have h2 : decide (2 < k) = true := by simpa using c1
    refine con_pureX (d9M1_vc n KK L S M k h1 h2 _) rfl ?_
    repeat' first | exact awake_con | exact trivial | exact rfl | (simp only [h1, h2, Bool.not_true, Bool.not_false]; done) | apply And.intro
  have h2 : decide (2 < k) = false := by simpa using c1
  have hk : 0 ≤ k ∧ k < 3 := by omega
  have ot := runD_ok KK L S M (min n 201)
  have vt := runD_va KK L S M (min n 201)
  have hlp := d9_lp n KK L S M k hn
  generalize runD KK L S M (min n 201) = s at ot vt hlp
  have ou := dropS_ok ot k
  have d := dropped vt hk
  have hh := holds_con _ ou k
  rw [hld_nil d.free] at hh
  have hh' := hh.post (v' := svN 0 (fun _ => 0) (fun _ => 0) (fun _ => 0)) (us' := []) (VW.sv fun i j hi => absurd hi (Nat.not_lt_zero i)) trivial
  have hv := valid_con _ ou
  rw [dropS_va vt k] at hv
  have g1 : (!decide (k < 0)) = true := by rw [h1]; rfl
  exact con_pureX (d9M_vc s.ts (dropS s k).ts n KK L S M k h1 h2 _) rfl ⟨awake_con, trivial, g1, g1, h1, h2, hlp, trivial, own_con _ ot, drop_con s ot k, own_con _ ou, hh', own_con _ ou, hv, trivial, d9_lp2 s (dropS s k) ou k hk d, rfl⟩
end Go.Proofs.Lk
