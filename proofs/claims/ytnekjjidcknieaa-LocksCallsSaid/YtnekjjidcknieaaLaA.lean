/- Runs over unknown values, told by the kernel: part LaA. -/
import Derived.Test.YtnekjjidcknieaaLkB
set_option linter.unusedSimpArgs false
set_option linter.unusedVariables false
set_option maxRecDepth 20000
namespace Go.Proofs.Lk
open Go Go.Sim Go.Proofs
theorem c50R_vc (n m i : Nat) (A M W : Nat → Int) (F : Nat → Nat → CV) (h1 : decide (Int.ofNat i < Int.ofNat n) = true) (K : Res → Orc → Prop) : runK Try.prog 1000000 (.code (loopAt Try.prog 50 0) 19 (mkT [(0, svN n A M W), (3, .lr 0 3 0 m false), (4, .i .i64 (Int.ofNat i))]) (mkH [some (.rows 61 3 m F)])) (Orc.t Orc.z) K = (decide (Int.ofNat i < Int.ofNat n) = true ∧ (0 ≤ Int.ofNat i ∧ Int.ofNat i < ↑n) ∧ True ∧ (0 + m ≤ m ∧ True ∧ m + 1 ≤ 140737488355328 ∧ (3 * (m + 1) + 1536) * 24 ≤ 562949953421312) ∧ ((-9223372036854775808) ≤ Int.ofNat i + 1 ∧ Int.ofNat i + (1 : Int) ≤ (9223372036854775807 : Int)) ∧ K (Res.st XO.nrm (z1 (AV.sv 3 n (qF A M W)) (z0 (z1 (AV.lr 2 3 0 (addN m 1) false) (z1 (AV.i .i64 (Int.ofNat n)) (zl (AV.agg [AV.i .i64 (A i), AV.i .i64 (M i), AV.i .i64 (W i)])) T.e) (zl (AV.lr 0 3 0 m false))) (z1 (AV.i .i64 (Int.ofNat i)) (z1 (AV.i .i64 (Int.ofNat i)) (zl (AV.lr 2 3 0
  (addN m 1) false)) T.e) (zl (AV.i .i64 (Int.ofNat i))))) (z0 (z1 (AV.i .i64 (Int.ofNat i + 1)) (z1 (AV.b (decide (Int.ofNat i < Int.ofNat n))) (zl (AV.l 1 0 1 1 3 true)) T.e) (zl (AV.sv 3 n (qF A M W)))) (z1 (AV.sv 3 n (qF A M W)) (zl (AV.i .i64 (Int.ofNat i + 1))) (zl (AV.pv 3 (qF A M W i)))))) ⟨z0 (zl (AObj.cells 61 3 [] (z1 (AV.i .i64 (A i)) (zl (AV.i .i64 (M i))) (zl (AV.i .i64 (W i)))))) (zl (AObj.rows 61 3 (addN m 1) (appZ m F (listF 3 [CV.i .i64 (A i), CV.i .i64 (M i), CV.i .i64 (W i)] 1)))), 3, [2, 0, 1]⟩) Orc.z) := by kernel_rfl
theorem c50E_vc (n m i : Nat) (A M W : Nat → Int) (F : Nat → Nat → CV) (h1 : decide (Int.ofNat i < Int.ofNat n) = false) (K : Res → Orc → Prop) : runK Try.prog 1000000 (.code (loopAt Try.prog 50 0) 19 (mkT [(0, svN n A M W), (3, .lr 0 3 0 m false), (4, .i .i64 (Int.ofNat i))]) (mkH [some (.rows 61 3 m F)])) (Orc.f Orc.z) K = (decide (Int.ofNat i < Int.ofNat n) = false ∧ K (Res.st (XO.exit 0) (z1 (AV.sv 3 n (qF A M W)) (z0 (z1 (AV.lr 0 3 0 m false) (zl (AV.i .i64 (Int.ofNat n))) T.e) (zl (AV.i .i64 (Int.ofNat i)))) (z0 (z1 (AV.i .i64 (Int.ofNat i)) (zl (AV.b (decide (Int.ofNat i < Int.ofNat n)))) T.e) (zl (AV.sv 3 n (qF A M W))))) ⟨zl (AObj.rows 61 3 m F), 1, []⟩) Orc.z) := by kernel_rfl
theorem c50_vc (n : Nat) (A M W : Nat → Int) (K : Res → Orc → Prop) : runK Try.prog 1000000 (.call 50 [svN n A M W] (mkH [])) (Orc.lop [] [0, 3, 4] 0 (XO.exit 0) [(3, AV.lr 0 3 0 n false)] [some (AObj.rows 61 3 n (qF A M W))] Orc.z) K = (LDoes Try.prog (loopAt Try.prog 50 0) 19 0 (mkT [(0, svN n A M W), (3, AV.l0), (4, AV.i .i64 0)]) [] (XO.exit 0) (mkT [(3, AV.lr 0 3 0 n false)]) [some (AObj.rows 61 3 n (qF A M W))] ∧ K (Res.rv (AV.lr 0 3 0 n false) ⟨zl (AObj.rows 61 3 n (qF A M W)), 1, [0]⟩) Orc.z) := by kernel_rfl
theorem c51R_vc (n m i : Nat) (f : Nat → Int) (F : Nat → Nat → CV) (h1 : decide (Int.ofNat i < Int.ofNat n) = true) (K : Res → Orc → Prop) : runK Try.prog 1000000 (.code (loopAt Try.prog 51 0) 19 (mkT [(0, isv n f), (3, .lr 0 1 0 m false), (4, .i .i64 (Int.ofNat i))]) (mkH [some (.rows 3 1 m F)])) (Orc.t Orc.z) K = (decide (Int.ofNat i < Int.ofNat n) = true ∧ (0 ≤ Int.ofNat i ∧ Int.ofNat i < ↑n) ∧ True ∧ (0 + m ≤ m ∧ True ∧ m + 1 ≤ 140737488355328 ∧ (3 * (m + 1) + 1536) * 8 ≤ 562949953421312) ∧ ((-9223372036854775808) ≤ Int.ofNat i + 1 ∧ Int.ofNat i + (1 : Int) ≤ (9223372036854775807 : Int)) ∧ K (Res.st XO.nrm (z1 (AV.sv 1 n fun i x => CV.i .i64 (f i)) (z0 (z1 (AV.lr 2 1 0 (addN m 1) false) (z1 (AV.i .i64 (Int.ofNat n)) (zl (AV.i .i64 (f i))) T.e) (zl (AV.lr 0 1 0 m false))) (z1 (AV.i .i64 (Int.ofNat i)) (z1 (AV.i .i64 (Int.ofNat i)) (zl (AV.lr 2 1 0 (addN m 1) false)) T.e) (zl (AV.i
  .i64 (Int.ofNat i))))) (z0 (z1 (AV.i .i64 (Int.ofNat i + 1)) (z1 (AV.b (decide (Int.ofNat i < Int.ofNat n))) (zl (AV.l 1 0 1 1 1 true)) T.e) (zl (AV.sv 1 n fun i x => CV.i .i64 (f i)))) (z1 (AV.sv 1 n fun i x => CV.i .i64 (f i)) (zl (AV.i .i64 (Int.ofNat i + 1))) (zl (AV.pv 1 fun c => CV.i .i64 (f i)))))) ⟨z0 (zl (AObj.cells 3 1 [] (zl (AV.i .i64 (f i))))) (zl (AObj.rows 3 1 (addN m 1) (appZ m F (listF 1 [CV.i .i64 (f i)] 1)))), 3, [2, 0, 1]⟩) Orc.z) := by kernel_rfl
theorem c51E_vc (n m i : Nat) (f : Nat → Int) (F : Nat → Nat → CV) (h1 : decide (Int.ofNat i < Int.ofNat n) = false) (K : Res → Orc → Prop) : runK Try.prog 1000000 (.code (loopAt Try.prog 51 0) 19 (mkT [(0, isv n f), (3, .lr 0 1 0 m false), (4, .i .i64 (Int.ofNat i))]) (mkH [some (.rows 3 1 m F)])) (Orc.f Orc.z) K = (decide (Int.ofNat i < Int.ofNat n) = false ∧ K (Res.st (XO.exit 0) (z1 (AV.sv 1 n fun i x => CV.i .i64 (f i)) (z0 (z1 (AV.lr 0 1 0 m false) (zl (AV.i .i64 (Int.ofNat n))) T.e) (zl (AV.i .i64 (Int.ofNat i)))) (z0 (z1 (AV.i .i64 (Int.ofNat i)) (zl (AV.b (decide (Int.ofNat i < Int.ofNat n)))) T.e) (zl (AV.sv 1 n fun i x => CV.i .i64 (f i))))) ⟨zl (AObj.rows 3 1 m F), 1, []⟩) Orc.z) := by kernel_rfl
theorem c51_vc (n : Nat) (f : Nat → Int) (K : Res → Orc → Prop) : runK Try.prog 1000000 (.call 51 [isv n f] (mkH [])) (Orc.lop [] [0, 3, 4] 0 (XO.exit 0) [(3, AV.lr 0 1 0 n false)] [some (AObj.rows 3 1 n fun i x => CV.i .i64 (f i))] Orc.z) K = (LDoes Try.prog (loopAt Try.prog 51 0) 19 0 (mkT [(0, isv n f), (3, AV.l0), (4, AV.i .i64 0)]) [] (XO.exit 0) (mkT [(3, AV.lr 0 1 0 n false)]) [some (AObj.rows 3 1 n fun i x => CV.i .i64 (f i))] ∧ K (Res.rv (AV.lr 0 1 0 n false) ⟨zl (AObj.rows 3 1 n fun i x => CV.i .i64 (f i)), 1, [0]⟩) Orc.z) := by kernel_rfl
theorem c52R_vc (b : Mb) (m i : Nat) (F : Nat → Nat → CV) (h1 : decide (Int.ofNat i < Int.ofNat (b.dn)) = true) (K : Res → Orc → Prop) : runK Try.prog 1000000 (.code (loopAt Try.prog 52 0) 39 (mkT [(1, .p 0 0), (2, .p 1 0), (3, .lr 2 3 0 m false), (4, .i .i64 (Int.ofNat i))]) (mkH [some (vwO b), some vzO, some (.rows 83 3 m F)])) (Orc.t Orc.z) K = (True ∧ decide (Int.ofNat i < Int.ofNat (Mb.dn b)) = true ∧ True ∧ (0 ≤ Int.ofNat i ∧ Int.ofNat i < ↑(Mb.dn b)) ∧ True ∧ (0 + m ≤ m ∧ True ∧ m + 1 ≤ 140737488355328 ∧ (3 * (m + 1) + 1536) * 24 ≤ 562949953421312) ∧ ((-9223372036854775808) ≤ Int.ofNat i + 1 ∧ Int.ofNat i + (1 : Int) ≤ (9223372036854775807 : Int)) ∧ K (Res.st XO.nrm (z0 (z1 (AV.p 0 0) (z1 (AV.lr 4 3 0 (addN m 1) false) (z0 (z0 (zl (AV.i .i64 (Int.ofNat i))) T.e) (zl (AV.sv 3 (Mb.dn b) (qF (Mb.dA b) (Mb.dM b) (Mb.dW b))))) (z0 (z0 (zl (AV.lr 4 3 0 (addN m 1) false)) T.e) (zl (AV.i
  .i64 (Int.ofNat i + 1))))) (z0 (z0 (z0 (zl (AV.agg [AV.i .i64 (Mb.dA b i), AV.i .i64 (Mb.dM b i), AV.i .i64 (Mb.dW b i)])) T.e) (zl (AV.b (decide (Int.ofNat i < Int.ofNat (Mb.dn b)))))) (z0 (zl (AV.i .i64 (Int.ofNat i))) (zl (AV.p 0 6))))) (z1 (AV.p 1 0) (z1 (AV.i .i64 (Int.ofNat i + 1)) (z0 (z0 (zl (AV.pv 3 (qF (Mb.dA b) (Mb.dM b) (Mb.dW b) i))) T.e) (zl (AV.i .i64 (Int.ofNat (Mb.dn b))))) (z0 T.e (zl (AV.lr 2 3 0 m false)))) (z0 (z0 (z0 (zl (AV.l 3 0 1 1 3 true)) T.e) (zl (AV.i .i64 (Int.ofNat i)))) (z0 (zl (AV.p 0 6)) (zl (AV.sv 3 (Mb.dn b) (qF (Mb.dA b) (Mb.dM b) (Mb.dW b)))))))) ⟨z1 (AObj.cells 30 7 [] (z1 (AV.i .i64 (Mb.x b 6)) (z1 (AV.i .i64 (Mb.x b 7)) (zl (AV.sv 1 (Mb.mn b) fun i x => CV.i .i64 (Mb.mf b i))) (zl (AV.sv 3 (Mb.hn b) (qF (Mb.hA b) (Mb.hM b) (Mb.hW b))))) (z1 (AV.i .i64 (Mb.x b 8)) (zl (AV.sv 1 (Mb.sn b) fun i x => CV.i .i64 (Mb.sf b i))) (zl (AV.sv 3 (Mb.dn b) (qF
  (Mb.dA b) (Mb.dM b) (Mb.dW b))))))) (z1 (AObj.cells 30 7 [AV.i .i64 0, AV.i .i64 0, AV.i .i64 0, AV.l0, AV.l0, AV.l0, AV.l0] T.e) (zl (AObj.cells 83 3 [] (z1 (AV.i .i64 (Mb.dA b i)) (zl (AV.i .i64 (Mb.dM b i))) (zl (AV.i .i64 (Mb.dW b i)))))) T.e) (z0 (zl (AObj.rows 83 3 (addN m 1) (appZ m F (listF 3 [CV.i .i64 (Mb.dA b i), CV.i .i64 (Mb.dM b i), CV.i .i64 (Mb.dW b i)] 1)))) T.e), 5, [4, 2, 3]⟩) Orc.z) := by kernel_rfl
theorem c52E_vc (b : Mb) (m i : Nat) (F : Nat → Nat → CV) (h1 : decide (Int.ofNat i < Int.ofNat (b.dn)) = false) (K : Res → Orc → Prop) : runK Try.prog 1000000 (.code (loopAt Try.prog 52 0) 39 (mkT [(1, .p 0 0), (2, .p 1 0), (3, .lr 2 3 0 m false), (4, .i .i64 (Int.ofNat i))]) (mkH [some (vwO b), some vzO, some (.rows 83 3 m F)])) (Orc.f Orc.z) K = (True ∧ decide (Int.ofNat i < Int.ofNat (Mb.dn b)) = false ∧ K (Res.st (XO.exit 0) (z0 (z1 (AV.p 0 0) (z1 (AV.lr 2 3 0 m false) (z0 T.e (zl (AV.sv 3 (Mb.dn b) (qF (Mb.dA b) (Mb.dM b) (Mb.dW b))))) T.e) (z0 (z0 T.e (zl (AV.b (decide (Int.ofNat i < Int.ofNat (Mb.dn b)))))) (z0 (zl (AV.i .i64 (Int.ofNat i))) T.e))) (z1 (AV.p 1 0) (z1 (AV.i .i64 (Int.ofNat i)) (z0 T.e (zl (AV.i .i64 (Int.ofNat (Mb.dn b))))) T.e) (z0 T.e (z0 (zl (AV.p 0 6)) T.e)))) ⟨z1 (AObj.cells 30 7 [] (z1 (AV.i .i64 (Mb.x b 6)) (z1 (AV.i .i64 (Mb.x b 7)) (zl (AV.sv 1 (Mb.mn b)
  fun i x => CV.i .i64 (Mb.mf b i))) (zl (AV.sv 3 (Mb.hn b) (qF (Mb.hA b) (Mb.hM b) (Mb.hW b))))) (z1 (AV.i .i64 (Mb.x b 8)) (zl (AV.sv 1 (Mb.sn b) fun i x => CV.i .i64 (Mb.sf b i))) (zl (AV.sv 3 (Mb.dn b) (qF (Mb.dA b) (Mb.dM b) (Mb.dW b))))))) (zl (AObj.cells 30 7 [AV.i .i64 0, AV.i .i64 0, AV.i .i64 0, AV.l0, AV.l0, AV.l0, AV.l0] T.e)) (zl (AObj.rows 83 3 m F)), 3, []⟩) Orc.z) := by kernel_rfl
theorem c52_vc (b : Mb) (K : Res → Orc → Prop) : runK Try.prog 1000000 (.call 52 [.agg (vwL b)] (mkH [])) (Orc.cal [] (isv (Mb.mn b) (Mb.mf b)) [] (Orc.cal [] (isv (Mb.sn b) (Mb.sf b)) [] (Orc.cal [] (svN (Mb.hn b) (Mb.hA b) (Mb.hM b) (Mb.hW b)) [] (Orc.lop [0, 1] [1, 2, 3, 4] 2 (XO.exit 0) [(1, AV.p 0 0), (2, AV.p 1 0), (3, AV.lr 2 3 0 (Mb.dn b) false)] [some (vwO b), some vzO, some (AObj.rows 83 3 (Mb.dn b) (qF (Mb.dA b) (Mb.dM b) (Mb.dW b)))] Orc.z)))) K = (True ∧ True ∧ Con Try.prog 51 [isv (Mb.mn b) (Mb.mf b)] [] (isv (Mb.mn b) (Mb.mf b)) [] ∧ True ∧ True ∧ True ∧ True ∧ Con Try.prog 51 [isv (Mb.sn b) (Mb.sf b)] [] (isv (Mb.sn b) (Mb.sf b)) [] ∧ True ∧ True ∧ True ∧ Con Try.prog 50 [svN (Mb.hn b) (Mb.hA b) (Mb.hM b) (Mb.hW b)] [] (svN (Mb.hn b) (Mb.hA b) (Mb.hM b) (Mb.hW b)) [] ∧ True ∧ LDoes Try.prog (loopAt Try.prog 52 0) 39 2 (mkT [(1, AV.p 0 0), (2, AV.p 1 0), (3, AV.l0), (4,
  AV.i .i64 0)]) [some (vwO b), some vzO] (XO.exit 0) (mkT [(1, AV.p 0 0), (2, AV.p 1 0), (3, AV.lr 2 3 0 (Mb.dn b) false)]) [some (vwO b), some vzO, some (AObj.rows 83 3 (Mb.dn b) (qF (Mb.dA b) (Mb.dM b) (Mb.dW b)))] ∧ True ∧ K (Res.rv (AV.agg [AV.i .i64 (Mb.x b 6), AV.i .i64 (Mb.x b 7), AV.i .i64 (Mb.x b 8), AV.sv 1 (Mb.mn b) fun i x => CV.i .i64 (Mb.mf b i), AV.sv 1 (Mb.sn b) fun i x => CV.i .i64 (Mb.sf b i), AV.sv 3 (Mb.hn b) (qF (Mb.hA b) (Mb.hM b) (Mb.hW b)), AV.lr 2 3 0 (Mb.dn b) false]) ⟨z1 (AObj.cells 30 7 [] (z1 (AV.i .i64 (Mb.x b 6)) (z1 (AV.i .i64 (Mb.x b 7)) (zl (AV.sv 1 (Mb.mn b) fun i x => CV.i .i64 (Mb.mf b i))) (zl (AV.sv 3 (Mb.hn b) (qF (Mb.hA b) (Mb.hM b) (Mb.hW b))))) (z1 (AV.i .i64 (Mb.x b 8)) (zl (AV.sv 1 (Mb.sn b) fun i x => CV.i .i64 (Mb.sf b i))) (zl (AV.lr 2 3 0 (Mb.dn b) false))))) (zl (AObj.cells 30 7 [AV.i .i64 0, AV.i .i64 0, AV.i .i64 0, AV.l0, AV.l0, AV.l0,
  AV.l0] (z1 (AV.i .i64 (Mb.x b 6)) (z1 (AV.i .i64 (Mb.x b 7)) (zl (AV.sv 1 (Mb.mn b) fun i x => CV.i .i64 (Mb.mf b i))) (zl (AV.sv 3 (Mb.hn b) (qF (Mb.hA b) (Mb.hM b) (Mb.hW b))))) (z1 (AV.i .i64 (Mb.x b 8)) (zl (AV.sv 1 (Mb.sn b) fun i x => CV.i .i64 (Mb.sf b i))) (zl (AV.lr 2 3 0 (Mb.dn b) false)))))) (zl (AObj.rows 83 3 (Mb.dn b) (qF (Mb.dA b) (Mb.dM b) (Mb.dW b)))), 3, [1, 0, 2, 1, 0, 0, 0, 0, 1, 0]⟩) Orc.z) := by kernel_rfl
theorem cpR_vc (t : TS) (V : AV) : runK Try.prog 1000000 (.call 36 [tsV t] (mkH [])) (Orc.c (Orc.inl (oc 2 (Orc.cal [] (svN (TS.n t 0) (TS.A t (nat_lit 0)) (TS.M t (nat_lit 0)) (TS.W t (nat_lit 0))) [] (Orc.c (Orc.inl (oc 2 (Orc.cal [] (svN (TS.n t 1) (TS.A t (nat_lit 1)) (TS.M t (nat_lit 1)) (TS.W t (nat_lit 1))) [] (Orc.c (Orc.inl (oc 2 (Orc.cal [] (svN (TS.n t 2) (TS.A t (nat_lit 2)) (TS.M t (nat_lit 2)) (TS.W t (nat_lit 2))) [] (Orc.c (Orc.inl (oc 2 (Orc.cal [] (svN (TS.n t 3) (TS.A t (nat_lit 3)) (TS.M t (nat_lit 3)) (TS.W t (nat_lit 3))) [] (Orc.c (Orc.inl (oc 2 (Orc.cal [] (svN (TS.n t 4) (TS.A t (nat_lit 4)) (TS.M t (nat_lit 4)) (TS.W t (nat_lit 4))) [] (Orc.c (Orc.inl (oc 2 (Orc.cal [] (svN (TS.n t 5) (TS.A t (nat_lit 5)) (TS.M t (nat_lit 5)) (TS.W t (nat_lit 5))) [] (Orc.c (Orc.inl (oc 2 (Orc.cal [] (svN (TS.n t 6) (TS.A t (nat_lit 6)) (TS.M t (nat_lit 6)) (TS.W t (nat_lit 6)))
  [] (Orc.c (Orc.inl (oc 2 (Orc.cal [] (svN (TS.n t 7) (TS.A t (nat_lit 7)) (TS.M t (nat_lit 7)) (TS.W t (nat_lit 7))) [] (Orc.c (Orc.inl (oc 2 (Orc.cal [] (svN (TS.n t 8) (TS.A t (nat_lit 8)) (TS.M t (nat_lit 8)) (TS.W t (nat_lit 8))) [] (Orc.c (Orc.inl (oc 2 (Orc.cal [] (svN (TS.n t 9) (TS.A t (nat_lit 9)) (TS.M t (nat_lit 9)) (TS.W t (nat_lit 9))) [] (Orc.c (Orc.inl (oc 2 (Orc.cal [] (svN (TS.n t 10) (TS.A t (nat_lit 10)) (TS.M t (nat_lit 10)) (TS.W t (nat_lit 10))) [] (Orc.c (Orc.inl (oc 2 (Orc.cal [] (svN (TS.n t 11) (TS.A t (nat_lit 11)) (TS.M t (nat_lit 11)) (TS.W t (nat_lit 11))) [] (Orc.c (Orc.inl (oc 2 (Orc.cal [] (svN (TS.n t 12) (TS.A t (nat_lit 12)) (TS.M t (nat_lit 12)) (TS.W t (nat_lit 12))) [] (Orc.c (Orc.inl (oc 2 (Orc.cal [] (svN (TS.n t 13) (TS.A t (nat_lit 13)) (TS.M t (nat_lit 13)) (TS.W t (nat_lit 13))) [] (Orc.c (Orc.inl (oc 2 (Orc.cal [] (svN (TS.n t 14) (TS.A t
  (nat_lit 14)) (TS.M t (nat_lit 14)) (TS.W t (nat_lit 14))) [] (Orc.c (Orc.inl (oc 2 (Orc.cal [] (svN (TS.n t 15) (TS.A t (nat_lit 15)) (TS.M t (nat_lit 15)) (TS.W t (nat_lit 15))) [] (Orc.c (Orc.inl (oc 2 (Orc.cal [] (svN (TS.n t 16) (TS.A t (nat_lit 16)) (TS.M t (nat_lit 16)) (TS.W t (nat_lit 16))) [] (Orc.c (Orc.inl (oc 2 (Orc.cal [] (svN (TS.n t 17) (TS.A t (nat_lit 17)) (TS.M t (nat_lit 17)) (TS.W t (nat_lit 17))) [] (Orc.c (Orc.inl (oc 2 (Orc.cal [] (svN (TS.n t 18) (TS.A t (nat_lit 18)) (TS.M t (nat_lit 18)) (TS.W t (nat_lit 18))) [] (Orc.c (Orc.inl (Orc.c (Orc.cal [] (isv (Rs.mn (TS.r t)) (Rs.mf (TS.r t))) [] (Orc.cal [] (isv (Rs.sn (TS.r t)) (Rs.sf (TS.r t))) [] (Orc.inl (oc 2 (Orc.cal [] (AV.agg [AV.i .i64 (Mb.x (Rs.s (TS.r t) 0) 6), AV.i .i64 (Mb.x (Rs.s (TS.r t) 0) 7), AV.i .i64 (Mb.x (Rs.s (TS.r t) 0) 8), isv (Mb.mn (Rs.s (TS.r t) 0)) (Mb.mf (Rs.s (TS.r t) 0)), isv (Mb.sn
  (Rs.s (TS.r t) 0)) (Mb.sf (Rs.s (TS.r t) 0)), svN (Mb.hn (Rs.s (TS.r t) 0)) (Mb.hA (Rs.s (TS.r t) 0)) (Mb.hM (Rs.s (TS.r t) 0)) (Mb.hW (Rs.s (TS.r t) 0)), svN (Mb.dn (Rs.s (TS.r t) 0)) (Mb.dA (Rs.s (TS.r t) 0)) (Mb.dM (Rs.s (TS.r t) 0)) (Mb.dW (Rs.s (TS.r t) 0))]) [] (Orc.c (Orc.inl (oc 2 (Orc.cal [] (AV.agg [AV.i .i64 (Mb.x (Rs.s (TS.r t) 1) 6), AV.i .i64 (Mb.x (Rs.s (TS.r t) 1) 7), AV.i .i64 (Mb.x (Rs.s (TS.r t) 1) 8), isv (Mb.mn (Rs.s (TS.r t) 1)) (Mb.mf (Rs.s (TS.r t) 1)), isv (Mb.sn (Rs.s (TS.r t) 1)) (Mb.sf (Rs.s (TS.r t) 1)), svN (Mb.hn (Rs.s (TS.r t) 1)) (Mb.hA (Rs.s (TS.r t) 1)) (Mb.hM (Rs.s (TS.r t) 1)) (Mb.hW (Rs.s (TS.r t) 1)), svN (Mb.dn (Rs.s (TS.r t) 1)) (Mb.dA (Rs.s (TS.r t) 1)) (Mb.dM (Rs.s (TS.r t) 1)) (Mb.dW (Rs.s (TS.r t) 1))]) [] (Orc.c (Orc.inl (oc 2 (Orc.cal [] (AV.agg [AV.i .i64 (Mb.x (Rs.s (TS.r t) 2) 6), AV.i .i64 (Mb.x (Rs.s (TS.r t) 2) 7), AV.i .i64 (Mb.x
  (Rs.s (TS.r t) 2) 8), isv (Mb.mn (Rs.s (TS.r t) 2)) (Mb.mf (Rs.s (TS.r t) 2)), isv (Mb.sn (Rs.s (TS.r t) 2)) (Mb.sf (Rs.s (TS.r t) 2)), svN (Mb.hn (Rs.s (TS.r t) 2)) (Mb.hA (Rs.s (TS.r t) 2)) (Mb.hM (Rs.s (TS.r t) 2)) (Mb.hW (Rs.s (TS.r t) 2)), svN (Mb.dn (Rs.s (TS.r t) 2)) (Mb.dA (Rs.s (TS.r t) 2)) (Mb.dM (Rs.s (TS.r t) 2)) (Mb.dW (Rs.s (TS.r t) 2))]) [] (Orc.c (Orc.inl (Orc.c Orc.z))))))))))))))))))))))))))))))))))))))))))))))))))))))))))))))))))))))))))))))))))))))))))))))) (fun r _ => rvIs V r) = (True ∧ Con Try.prog 50 [svN (TS.n t 0) (TS.A t (nat_lit 0)) (TS.M t (nat_lit 0)) (TS.W t (nat_lit 0))] [] (svN (TS.n t 0) (TS.A t (nat_lit 0)) (TS.M t (nat_lit 0)) (TS.W t (nat_lit 0))) [] ∧ True ∧ ((-9223372036854775808 : Int) ≤ (1 : Int) ∧ (1 : Int) ≤ (9223372036854775807 : Int)) ∧ True ∧ Con Try.prog 50 [svN (TS.n t 1) (TS.A t (nat_lit 1)) (TS.M t (nat_lit 1)) (TS.W t (nat_lit 1))] []
  (svN (TS.n t 1) (TS.A t (nat_lit 1)) (TS.M t (nat_lit 1)) (TS.W t (nat_lit 1))) [] ∧ True ∧ ((-9223372036854775808 : Int) ≤ (2 : Int) ∧ (2 : Int) ≤ (9223372036854775807 : Int)) ∧ True ∧ Con Try.prog 50 [svN (TS.n t 2) (TS.A t (nat_lit 2)) (TS.M t (nat_lit 2)) (TS.W t (nat_lit 2))] [] (svN (TS.n t 2) (TS.A t (nat_lit 2)) (TS.M t (nat_lit 2)) (TS.W t (nat_lit 2))) [] ∧ True ∧ ((-9223372036854775808 : Int) ≤ (3 : Int) ∧ (3 : Int) ≤ (9223372036854775807 : Int)) ∧ True ∧ Con Try.prog 50 [svN (TS.n t 3) (TS.A t (nat_lit 3)) (TS.M t (nat_lit 3)) (TS.W t (nat_lit 3))] [] (svN (TS.n t 3) (TS.A t (nat_lit 3)) (TS.M t (nat_lit 3)) (TS.W t (nat_lit 3))) [] ∧ True ∧ ((-9223372036854775808 : Int) ≤ (4 : Int) ∧ (4 : Int) ≤ (9223372036854775807 : Int)) ∧ True ∧ Con Try.prog 50 [svN (TS.n t 4) (TS.A t (nat_lit 4)) (TS.M t (nat_lit 4)) (TS.W t (nat_lit 4))] [] (svN (TS.n t 4) (TS.A t (nat_lit 4)) (TS.M t
  (nat_lit 4)) (TS.W t (nat_lit 4))) [] ∧ True ∧ ((-9223372036854775808 : Int) ≤ (5 : Int) ∧ (5 : Int) ≤ (9223372036854775807 : Int)) ∧ True ∧ Con Try.prog 50 [svN (TS.n t 5) (TS.A t (nat_lit 5)) (TS.M t (nat_lit 5)) (TS.W t (nat_lit 5))] [] (svN (TS.n t 5) (TS.A t (nat_lit 5)) (TS.M t (nat_lit 5)) (TS.W t (nat_lit 5))) [] ∧ True ∧ ((-9223372036854775808 : Int) ≤ (6 : Int) ∧ (6 : Int) ≤ (9223372036854775807 : Int)) ∧ True ∧ Con Try.prog 50 [svN (TS.n t 6) (TS.A t (nat_lit 6)) (TS.M t (nat_lit 6)) (TS.W t (nat_lit 6))] [] (svN (TS.n t 6) (TS.A t (nat_lit 6)) (TS.M t (nat_lit 6)) (TS.W t (nat_lit 6))) [] ∧ True ∧ ((-9223372036854775808 : Int) ≤ (7 : Int) ∧ (7 : Int) ≤ (9223372036854775807 : Int)) ∧ True ∧ Con Try.prog 50 [svN (TS.n t 7) (TS.A t (nat_lit 7)) (TS.M t (nat_lit 7)) (TS.W t (nat_lit 7))] [] (svN (TS.n t 7) (TS.A t (nat_lit 7)) (TS.M t (nat_lit 7)) (TS.W t (nat_lit 7))) [] ∧ True
  ∧ ((-9223372036854775808 : Int) ≤ (8 : Int) ∧ (8 : Int) ≤ (9223372036854775807 : Int)) ∧ True ∧ Con Try.prog 50 [svN (TS.n t 8) (TS.A t (nat_lit 8)) (TS.M t (nat_lit 8)) (TS.W t (nat_lit 8))] [] (svN (TS.n t 8) (TS.A t (nat_lit 8)) (TS.M t (nat_lit 8)) (TS.W t (nat_lit 8))) [] ∧ True ∧ ((-9223372036854775808 : Int) ≤ (9 : Int) ∧ (9 : Int) ≤ (9223372036854775807 : Int)) ∧ True ∧ Con Try.prog 50 [svN (TS.n t 9) (TS.A t (nat_lit 9)) (TS.M t (nat_lit 9)) (TS.W t (nat_lit 9))] [] (svN (TS.n t 9) (TS.A t (nat_lit 9)) (TS.M t (nat_lit 9)) (TS.W t (nat_lit 9))) [] ∧ True ∧ ((-9223372036854775808 : Int) ≤ (10 : Int) ∧ (10 : Int) ≤ (9223372036854775807 : Int)) ∧ True ∧ Con Try.prog 50 [svN (TS.n t 10) (TS.A t (nat_lit 10)) (TS.M t (nat_lit 10)) (TS.W t (nat_lit 10))] [] (svN (TS.n t 10) (TS.A t (nat_lit 10)) (TS.M t (nat_lit 10)) (TS.W t (nat_lit 10))) [] ∧ True ∧ ((-9223372036854775808 : Int) ≤
  (11 : Int) ∧ (11 : Int) ≤ (9223372036854775807 : Int)) ∧ True ∧ Con Try.prog 50 [svN (TS.n t 11) (TS.A t (nat_lit 11)) (TS.M t (nat_lit 11)) (TS.W t (nat_lit 11))] [] (svN (TS.n t 11) (TS.A t (nat_lit 11)) (TS.M t (nat_lit 11)) (TS.W t (nat_lit 11))) [] ∧ True ∧ ((-9223372036854775808 : Int) ≤ (12 : Int) ∧ (12 : Int) ≤ (9223372036854775807 : Int)) ∧ True ∧ Con Try.prog 50 [svN (TS.n t 12) (TS.A t (nat_lit 12)) (TS.M t (nat_lit 12)) (TS.W t (nat_lit 12))] [] (svN (TS.n t 12) (TS.A t (nat_lit 12)) (TS.M t (nat_lit 12)) (TS.W t (nat_lit 12))) [] ∧ True ∧ ((-9223372036854775808 : Int) ≤ (13 : Int) ∧ (13 : Int) ≤ (9223372036854775807 : Int)) ∧ True ∧ Con Try.prog 50 [svN (TS.n t 13) (TS.A t (nat_lit 13)) (TS.M t (nat_lit 13)) (TS.W t (nat_lit 13))] [] (svN (TS.n t 13) (TS.A t (nat_lit 13)) (TS.M t (nat_lit 13)) (TS.W t (nat_lit 13))) [] ∧ True ∧ ((-9223372036854775808 : Int) ≤ (14 : Int) ∧
  (14 : Int) ≤ (9223372036854775807 : Int)) ∧ True ∧ Con Try.prog 50 [svN (TS.n t 14) (TS.A t (nat_lit 14)) (TS.M t (nat_lit 14)) (TS.W t (nat_lit 14))] [] (svN (TS.n t 14) (TS.A t (nat_lit 14)) (TS.M t (nat_lit 14)) (TS.W t (nat_lit 14))) [] ∧ True ∧ ((-9223372036854775808 : Int) ≤ (15 : Int) ∧ (15 : Int) ≤ (9223372036854775807 : Int)) ∧ True ∧ Con Try.prog 50 [svN (TS.n t 15) (TS.A t (nat_lit 15)) (TS.M t (nat_lit 15)) (TS.W t (nat_lit 15))] [] (svN (TS.n t 15) (TS.A t (nat_lit 15)) (TS.M t (nat_lit 15)) (TS.W t (nat_lit 15))) [] ∧ True ∧ ((-9223372036854775808 : Int) ≤ (16 : Int) ∧ (16 : Int) ≤ (9223372036854775807 : Int)) ∧ True ∧ Con Try.prog 50 [svN (TS.n t 16) (TS.A t (nat_lit 16)) (TS.M t (nat_lit 16)) (TS.W t (nat_lit 16))] [] (svN (TS.n t 16) (TS.A t (nat_lit 16)) (TS.M t (nat_lit 16)) (TS.W t (nat_lit 16))) [] ∧ True ∧ ((-9223372036854775808 : Int) ≤ (17 : Int) ∧ (17 : Int) ≤
  (9223372036854775807 : Int)) ∧ True ∧ Con Try.prog 50 [svN (TS.n t 17) (TS.A t (nat_lit 17)) (TS.M t (nat_lit 17)) (TS.W t (nat_lit 17))] [] (svN (TS.n t 17) (TS.A t (nat_lit 17)) (TS.M t (nat_lit 17)) (TS.W t (nat_lit 17))) [] ∧ True ∧ ((-9223372036854775808 : Int) ≤ (18 : Int) ∧ (18 : Int) ≤ (9223372036854775807 : Int)) ∧ True ∧ Con Try.prog 50 [svN (TS.n t 18) (TS.A t (nat_lit 18)) (TS.M t (nat_lit 18)) (TS.W t (nat_lit 18))] [] (svN (TS.n t 18) (TS.A t (nat_lit 18)) (TS.M t (nat_lit 18)) (TS.W t (nat_lit 18))) [] ∧ True ∧ ((-9223372036854775808 : Int) ≤ (19 : Int) ∧ (19 : Int) ≤ (9223372036854775807 : Int)) ∧ True ∧ True ∧ Con Try.prog 51 [isv (Rs.mn (TS.r t)) (Rs.mf (TS.r t))] [] (isv (Rs.mn (TS.r t)) (Rs.mf (TS.r t))) [] ∧ True ∧ True ∧ True ∧ True ∧ Con Try.prog 51 [isv (Rs.sn (TS.r t)) (Rs.sf (TS.r t))] [] (isv (Rs.sn (TS.r t)) (Rs.sf (TS.r t))) [] ∧ True ∧ True ∧ True ∧ True ∧
  Con Try.prog 52 [AV.agg [AV.i .i64 (Mb.x (Rs.s (TS.r t) 0) 6), AV.i .i64 (Mb.x (Rs.s (TS.r t) 0) 7), AV.i .i64 (Mb.x (Rs.s (TS.r t) 0) 8), isv (Mb.mn (Rs.s (TS.r t) 0)) (Mb.mf (Rs.s (TS.r t) 0)), isv (Mb.sn (Rs.s (TS.r t) 0)) (Mb.sf (Rs.s (TS.r t) 0)), svN (Mb.hn (Rs.s (TS.r t) 0)) (Mb.hA (Rs.s (TS.r t) 0)) (Mb.hM (Rs.s (TS.r t) 0)) (Mb.hW (Rs.s (TS.r t) 0)), svN (Mb.dn (Rs.s (TS.r t) 0)) (Mb.dA (Rs.s (TS.r t) 0)) (Mb.dM (Rs.s (TS.r t) 0)) (Mb.dW (Rs.s (TS.r t) 0))]] [] (AV.agg [AV.i .i64 (Mb.x (Rs.s (TS.r t) 0) 6), AV.i .i64 (Mb.x (Rs.s (TS.r t) 0) 7), AV.i .i64 (Mb.x (Rs.s (TS.r t) 0) 8), isv (Mb.mn (Rs.s (TS.r t) 0)) (Mb.mf (Rs.s (TS.r t) 0)), isv (Mb.sn (Rs.s (TS.r t) 0)) (Mb.sf (Rs.s (TS.r t) 0)), svN (Mb.hn (Rs.s (TS.r t) 0)) (Mb.hA (Rs.s (TS.r t) 0)) (Mb.hM (Rs.s (TS.r t) 0)) (Mb.hW (Rs.s (TS.r t) 0)), svN (Mb.dn (Rs.s (TS.r t) 0)) (Mb.dA (Rs.s (TS.r t) 0)) (Mb.dM (Rs.s (TS.r t)
  0)) (Mb.dW (Rs.s (TS.r t) 0))]) [] ∧ True ∧ True ∧ ((-9223372036854775808 : Int) ≤ (1 : Int) ∧ (1 : Int) ≤ (9223372036854775807 : Int)) ∧ True ∧ True ∧ Con Try.prog 52 [AV.agg [AV.i .i64 (Mb.x (Rs.s (TS.r t) 1) 6), AV.i .i64 (Mb.x (Rs.s (TS.r t) 1) 7), AV.i .i64 (Mb.x (Rs.s (TS.r t) 1) 8), isv (Mb.mn (Rs.s (TS.r t) 1)) (Mb.mf (Rs.s (TS.r t) 1)), isv (Mb.sn (Rs.s (TS.r t) 1)) (Mb.sf (Rs.s (TS.r t) 1)), svN (Mb.hn (Rs.s (TS.r t) 1)) (Mb.hA (Rs.s (TS.r t) 1)) (Mb.hM (Rs.s (TS.r t) 1)) (Mb.hW (Rs.s (TS.r t) 1)), svN (Mb.dn (Rs.s (TS.r t) 1)) (Mb.dA (Rs.s (TS.r t) 1)) (Mb.dM (Rs.s (TS.r t) 1)) (Mb.dW (Rs.s (TS.r t) 1))]] [] (AV.agg [AV.i .i64 (Mb.x (Rs.s (TS.r t) 1) 6), AV.i .i64 (Mb.x (Rs.s (TS.r t) 1) 7), AV.i .i64 (Mb.x (Rs.s (TS.r t) 1) 8), isv (Mb.mn (Rs.s (TS.r t) 1)) (Mb.mf (Rs.s (TS.r t) 1)), isv (Mb.sn (Rs.s (TS.r t) 1)) (Mb.sf (Rs.s (TS.r t) 1)), svN (Mb.hn (Rs.s (TS.r t) 1))
  (Mb.hA (Rs.s (TS.r t) 1)) (Mb.hM (Rs.s (TS.r t) 1)) (Mb.hW (Rs.s (TS.r t) 1)), svN (Mb.dn (Rs.s (TS.r t) 1)) (Mb.dA (Rs.s (TS.r t) 1)) (Mb.dM (Rs.s (TS.r t) 1)) (Mb.dW (Rs.s (TS.r t) 1))]) [] ∧ True ∧ True ∧ ((-9223372036854775808 : Int) ≤ (2 : Int) ∧ (2 : Int) ≤ (9223372036854775807 : Int)) ∧ True ∧ True ∧ Con Try.prog 52 [AV.agg [AV.i .i64 (Mb.x (Rs.s (TS.r t) 2) 6), AV.i .i64 (Mb.x (Rs.s (TS.r t) 2) 7), AV.i .i64 (Mb.x (Rs.s (TS.r t) 2) 8), isv (Mb.mn (Rs.s (TS.r t) 2)) (Mb.mf (Rs.s (TS.r t) 2)), isv (Mb.sn (Rs.s (TS.r t) 2)) (Mb.sf (Rs.s (TS.r t) 2)), svN (Mb.hn (Rs.s (TS.r t) 2)) (Mb.hA (Rs.s (TS.r t) 2)) (Mb.hM (Rs.s (TS.r t) 2)) (Mb.hW (Rs.s (TS.r t) 2)), svN (Mb.dn (Rs.s (TS.r t) 2)) (Mb.dA (Rs.s (TS.r t) 2)) (Mb.dM (Rs.s (TS.r t) 2)) (Mb.dW (Rs.s (TS.r t) 2))]] [] (AV.agg [AV.i .i64 (Mb.x (Rs.s (TS.r t) 2) 6), AV.i .i64 (Mb.x (Rs.s (TS.r t) 2) 7), AV.i .i64 (Mb.x (Rs.s (TS.r t)
  2) 8), isv (Mb.mn (Rs.s (TS.r t) 2)) (Mb.mf (Rs.s (TS.r t) 2)), isv (Mb.sn (Rs.s (TS.r t) 2)) (Mb.sf (Rs.s (TS.r t) 2)), svN (Mb.hn (Rs.s (TS.r t) 2)) (Mb.hA (Rs.s (TS.r t) 2)) (Mb.hM (Rs.s (TS.r t) 2)) (Mb.hW (Rs.s (TS.r t) 2)), svN (Mb.dn (Rs.s (TS.r t) 2)) (Mb.dA (Rs.s (TS.r t) 2)) (Mb.dM (Rs.s (TS.r t) 2)) (Mb.dW (Rs.s (TS.r t) 2))]) [] ∧ True ∧ True ∧ ((-9223372036854775808 : Int) ≤ (3 : Int) ∧ (3 : Int) ≤ (9223372036854775807 : Int)) ∧ (tsV t) = V) := by kernel_rfl
theorem own_vc (t : TS) (V : AV) : runK Try.prog 1000000 (.call 15 [tsV t] (mkH [])) (Orc.c (Orc.cal [] (tsV t) [] Orc.z)) (fun r _ => rvIs V r) = (Con Try.prog 36 [tsV t] [] (tsV t) [] ∧ (tsV t) = V) := by kernel_rfl
theorem c50_lp (n : Nat) (A M W : Nat → Int) (hn : n ≤ 5864062014805) : LDoes Try.prog (loopAt Try.prog 50 0) 19 0 (mkT [(0, svN n A M W), (3, .l0), (4, .i .i64 0)]) [] (.exit 0) (mkT [(3, .lr 0 3 0 n false)]) [some (.rows 61 3 n (qF A M W))] := by
  have key := loop_indE (P := Try.prog) (c := loopAt Try.prog 50 0) (n := 19) (b := 0) (x := .exit 0) (l' := [(3, .lr 0 3 0 n false)]) (objs' := [some (.rows 61 3 n (qF A M W))]) (D := Nat × Nat)
    (fun q : Nat × Nat => ([(0, svN n A M W), (3, .lr 0 3 0 q.2 false), (4, .i .i64 (Int.ofNat q.1))], [some (.rows 61 3 q.2 (qF A M W))])) (fun q => n - q.1) (fun q => q.1 ≤ n ∧ q.2 = q.1) ?_ (0, 0) ⟨Nat.zero_le _, rfl⟩
  · refine key.weak ⟨rfl, .inl rfl, rfl, .inr ⟨rfl, .inl ⟨0, 3, 0, false, rfl⟩⟩, rfl, .inl rfl, trivial⟩ ?_
    intro o ho
    simp at ho; subst ho
    exact ⟨_, rfl, rfl⟩
  rintro ⟨i, m⟩ ⟨hi, hm⟩
  simp only at hi hm
  subst hm
  refine ⟨Nat.zero_le _, ?_⟩
  by_cases e : m = n
  · have h1 : decide (Int.ofNat m < Int.ofNat n) = false := by simp; omega
    refine ⟨_, _, (c50E_vc n m m A M W _ h1 _).mpr ⟨h1, ?_⟩⟩
    subst e
    exact .inr ⟨[0], [], _, _, _, rfl, by simp, st_k [0] (by kernel_rfl), OEqL.refl _⟩
  · have h1 : decide (Int.ofNat m < Int.ofNat n) = true := by simp; omega
    refine ⟨_, _, (c50R_vc n m m A M W _ h1 _).mpr ⟨h1, ⟨by simp, by simp <;> omega⟩, trivial, ⟨by omega, trivial, by omega, by omega⟩, ⟨by simp <;> omega, by simp <;> omega⟩, .inl ⟨(m + 1, addN m 1), [2], [], _, _, [some (.rows 61 3 (addN m 1) (appZ m (qF A M W) (listF 3 [.i .i64 (A m), .i .i64 (M m), .i .i64 (W m)] 1)))], ⟨by omega, addN_eq _ _⟩, by show n - (m + 1) < n - m; omega, rfl, ?_, ?_⟩⟩⟩
    · dsimp only
      exact st_k [2] (by kernel_rfl)
    · dsimp only
      refine ⟨.rows ?_, trivial⟩
      intro j c hj hc
      rw [addN_eq] at hj
      rw [apq3 hc (fun _ _ => rfl) (fun c hc => listF_q (A m) (M m) (W m) _ c hc)]
      by_cases d : j < m
      · rw [if_pos d]
      · obtain rfl : j = m := by omega
        rw [if_neg d]
        rfl
theorem c50_con (n : Nat) (A M W : Nat → Int) (hn : n ≤ 5864062014805) : Con Try.prog 50 [svN n A M W] [] (svN n A M W) [] := by
  have h0 : Con Try.prog 50 [svN n A M W] [] (.sv 3 n (shiftF 0 (qF A M W))) [] := by
    refine con_runX [0] [] (c50_vc n A M W _) ⟨c50_lp n A M W hn, _, _, rfl, ?_⟩
    exact ret_fz [0] ((3 = 3 ∧ 0 + n ≤ n) ∧ True) (by kernel_rfl) (by kernel_rfl) ⟨⟨rfl, by omega⟩, trivial⟩ (by kernel_rfl) rfl (by kernel_rfl) (by kernel_rfl) rfl trivial
  refine h0.post (VW.sv fun i j hi hj => ?_) trivial
  rw [shiftF_eq, Nat.zero_add]
theorem c51_lp (n : Nat) (f : Nat → Int) (hn : n ≤ 17592186044416) : LDoes Try.prog (loopAt Try.prog 51 0) 19 0 (mkT [(0, isv n f), (3, .l0), (4, .i .i64 0)]) [] (.exit 0) (mkT [(3, .lr 0 1 0 n false)]) [some (.rows 3 1 n fun i _ => .i .i64 (f i))] := by
  have key := loop_indE (P := Try.prog) (c := loopAt Try.prog 51 0) (n := 19) (b := 0) (x := .exit 0) (l' := [(3, .lr 0 1 0 n false)]) (objs' := [some (.rows 3 1 n fun i _ => .i .i64 (f i))]) (D := Nat × Nat)
    (fun q : Nat × Nat => ([(0, isv n f), (3, .lr 0 1 0 q.2 false), (4, .i .i64 (Int.ofNat q.1))], [some (.rows 3 1 q.2 fun i _ => .i .i64 (f i))])) (fun q => n - q.1) (fun q => q.1 ≤ n ∧ q.2 = q.1) ?_ (0, 0) ⟨Nat.zero_le _, rfl⟩
  · refine key.weak ⟨rfl, .inl rfl, rfl, .inr ⟨rfl, .inl ⟨0, 1, 0, false, rfl⟩⟩, rfl, .inl rfl, trivial⟩ ?_
    intro o ho
    simp at ho; subst ho
    exact ⟨_, rfl, rfl⟩
  rintro ⟨i, m⟩ ⟨hi, hm⟩
  simp only at hi hm
  subst hm
  refine ⟨Nat.zero_le _, ?_⟩
  by_cases e : m = n
  · have h1 : decide (Int.ofNat m < Int.ofNat n) = false := by simp; omega
    refine ⟨_, _, (c51E_vc n m m f _ h1 _).mpr ⟨h1, ?_⟩⟩
    subst e
    exact .inr ⟨[0], [], _, _, _, rfl, by simp, st_k [0] (by kernel_rfl), OEqL.refl _⟩
  · have h1 : decide (Int.ofNat m < Int.ofNat n) = true := by simp; omega
    refine ⟨_, _, (c51R_vc n m m f _ h1 _).mpr ⟨h1, ⟨by simp, by simp <;> omega⟩, trivial, ⟨by omega, trivial, by omega, by omega⟩, ⟨by simp <;> omega, by simp <;> omega⟩, .inl ⟨(m + 1, addN m 1), [2], [], _, _, [some (.rows 3 1 (addN m 1) (appZ m (fun i _ => .i .i64 (f i)) (listF 1 [.i .i64 (f m)] 1)))], ⟨by omega, addN_eq _ _⟩, by show n - (m + 1) < n - m; omega, rfl, ?_, ?_⟩⟩⟩
    · dsimp only
      exact st_k [2] (by kernel_rfl)
    · dsimp only
      refine ⟨.rows ?_, trivial⟩
      intro j c hj hc
      rw [addN_eq] at hj
      obtain rfl : c = 0 := by omega
      rw [appZ_i (k := .i64) (a := f j) (b := f m) rfl rfl]
      by_cases d : j < m
      · rw [if_pos d]
      · obtain rfl : j = m := by omega
        rw [if_neg d]
theorem c51_con (n : Nat) (f : Nat → Int) (hn : n ≤ 17592186044416) : Con Try.prog 51 [isv n f] [] (isv n f) [] := by
  have h0 : Con Try.prog 51 [isv n f] [] (.sv 1 n (shiftF 0 (fun i _ => .i .i64 (f i)))) [] := by
    refine con_runX [0] [] (c51_vc n f _) ⟨c51_lp n f hn, _, _, rfl, ?_⟩
    exact ret_fz [0] ((1 = 1 ∧ 0 + n ≤ n) ∧ True) (by kernel_rfl) (by kernel_rfl) ⟨⟨rfl, by omega⟩, trivial⟩ (by kernel_rfl) rfl (by kernel_rfl) (by kernel_rfl) rfl trivial
  refine h0.post (VW.sv fun i j hi hj => ?_) trivial
  rw [shiftF_eq, Nat.zero_add]
theorem c52_lp (b : Mb) (hn : b.dn ≤ 5864062014805) : LDoes Try.prog (loopAt Try.prog 52 0) 39 2 (mkT [(1, .p 0 0), (2, .p 1 0), (3, .l0), (4, .i .i64 0)]) [some (vwO b), some vzO] (.exit 0) (mkT [(1, .p 0 0), (2, .p 1 0), (3, .lr 2 3 0 b.dn false)]) [some (vwO b), some vzO, some (.rows 83 3 b.dn (qF b.dA b.dM b.dW))] := by
  have key := loop_indE (P := Try.prog) (c := loopAt Try.prog 52 0) (n := 39) (b := 2) (x := .exit 0) (l' := [(1, .p 0 0), (2, .p 1 0), (3, .lr 2 3 0 b.dn false)]) (objs' := [some (vwO b), some vzO, some (.rows 83 3 b.dn (qF b.dA b.dM b.dW))]) (D := Nat × Nat)
    (fun q : Nat × Nat => ([(1, .p 0 0), (2, .p 1 0), (3, .lr 2 3 0 q.2 false), (4, .i .i64 (Int.ofNat q.1))], [some (vwO b), some vzO, some (.rows 83 3 q.2 (qF b.dA b.dM b.dW))])) (fun q => b.dn - q.1) (fun q => q.1 ≤ b.dn ∧ q.2 = q.1) ?_ (0, 0) ⟨Nat.zero_le _, rfl⟩
  · refine key.weak ⟨rfl, .inl rfl, rfl, .inl rfl, rfl, .inr ⟨rfl, .inl ⟨2, 3, 0, false, rfl⟩⟩, rfl, .inl rfl, trivial⟩ ⟨.refl _, .refl _, ?_⟩
    intro o ho
    simp at ho; subst ho
    exact ⟨_, rfl, rfl⟩
  rintro ⟨i, m⟩ ⟨hi, hm⟩
  simp only at hi hm
  subst hm
  refine ⟨by simp, ?_⟩
  by_cases e : m = b.dn
  · have h1 : decide (Int.ofNat m < Int.ofNat b.dn) = false := by simp; omega
    refine ⟨_, _, (c52E_vc b m m _ h1 _).mpr ⟨trivial, h1, ?_⟩⟩
    subst e
    exact .inr ⟨[0, 1, 2], [], _, _, _, rfl, by simp, st_k [0, 1, 2] (by kernel_rfl), OEqL.refl _⟩
  · have h1 : decide (Int.ofNat m < Int.ofNat b.dn) = true := by simp; omega
    refine ⟨_, _, (c52R_vc b m m _ h1 _).mpr ⟨trivial, h1, trivial, ⟨by simp, by simp <;> omega⟩, trivial, ⟨by omega, trivial, by omega, by omega⟩, ⟨by simp <;> omega, by simp <;> omega⟩, .inl ⟨(m + 1, addN m 1), [0, 1, 4], [], _, _, [some (vwO b), some vzO, some (.rows 83 3 (addN m 1) (appZ m (qF b.dA b.dM b.dW) (listF 3 [.i .i64 (b.dA m), .i .i64 (b.dM m), .i .i64 (b.dW m)] 1)))], ⟨by omega, addN_eq _ _⟩, by show b.dn - (m + 1) < b.dn - m; omega, rfl, ?_, ?_⟩⟩⟩
    · dsimp only
      exact st_k [0, 1, 4] (by kernel_rfl)
    · dsimp only
      refine ⟨.refl _, .refl _, .rows ?_, trivial⟩
      intro j c hj hc
      rw [addN_eq] at hj
      rw [apq3 hc (fun _ _ => rfl) (fun c hc => listF_q (b.dA m) (b.dM m) (b.dW m) _ c hc)]
      by_cases d : j < m
      · rw [if_pos d]
      · obtain rfl : j = m := by omega
        rw [if_neg d]
        rfl
theorem c52_con (b : Mb) (hb : b.mn ≤ 17592186044416 ∧ b.sn ≤ 17592186044416 ∧ b.hn ≤ 5864062014805 ∧ b.dn ≤ 5864062014805) : Con Try.prog 52 [.agg (vwL b)] [] (.agg (vwL b)) [] := by
  obtain ⟨b1, b2, b3, b4⟩ := hb
  have h0 : Con Try.prog 52 [.agg (vwL b)] [] (.agg [.i .i64 (b.x 6), .i .i64 (b.x 7), .i .i64 (b.x 8), isv b.mn b.mf, isv b.sn b.sf, svN b.hn b.hA b.hM b.hW, .sv 3 b.dn (shiftF 0 (qF b.dA b.dM b.dW))]) [] := by
    refine con_runX [2] [] (c52_vc b _) ⟨trivial, trivial, c51_con _ _ b1, trivial, trivial, trivial, trivial, c51_con _ _ b2, trivial, trivial, trivial, c50_con _ _ _ _ b3, trivial, c52_lp b b4, trivial, _, _, rfl, ?_⟩
    exact ret_fz [2] ((True ∧ True ∧ True ∧ True ∧ True ∧ True ∧ (3 = 3 ∧ 0 + b.dn ≤ b.dn) ∧ True) ∧ True) (by kernel_rfl) (by kernel_rfl) ⟨⟨trivial, trivial, trivial, trivial, trivial, trivial, ⟨rfl, by omega⟩, trivial⟩, trivial⟩ (by kernel_rfl) rfl (by kernel_rfl) (by kernel_rfl) rfl trivial
  refine h0.post (.agg ⟨.refl _, .refl _, .refl _, .refl _, .refl _, .refl _, VW.sv fun i j hi hj => ?_, trivial⟩) trivial
  rw [shiftF_eq, Nat.zero_add]
theorem cp_con (t : TS) (ok : t.ok) : Con Try.prog 36 [tsV t] [] (tsV t) [] := by
  obtain ⟨m1, m2⟩ := ok.m
  refine con_pureX (cpR_vc t _) (tsV_below t) ?_
  exact ⟨trivial, c50_con _ _ _ _ (ok.q _), trivial, ⟨by decide, by decide⟩, trivial, c50_con _ _ _ _ (ok.q _), trivial, ⟨by decide, by decide⟩, trivial, c50_con _ _ _ _ (ok.q _), trivial, ⟨by decide, by decide⟩, trivial, c50_con _ _ _ _ (ok.q _), trivial, ⟨by decide, by decide⟩, trivial, c50_con _ _ _ _ (ok.q _), trivial, ⟨by decide, by decide⟩, trivial, c50_con _ _ _ _ (ok.q _), trivial, ⟨by decide, by decide⟩, trivial, c50_con _ _ _ _ (ok.q _), trivial, ⟨by decide, by decide⟩, trivial, c50_con _ _ _ _ (ok.q _), trivial, ⟨by decide, by decide⟩, trivial, c50_con _ _ _ _ (ok.q _), trivial, ⟨by decide, by decide⟩, trivial, c50_con _ _ _ _ (ok.q _), trivial, ⟨by decide, by decide⟩, trivial, c50_con _ _ _ _ (ok.q _), trivial, ⟨by decide, by decide⟩, trivial, c50_con _ _ _ _ (ok.q _), trivial, ⟨by decide, by decide⟩, trivial, c50_con _ _ _ _ (ok.q _), trivial, ⟨by decide, by decide⟩, trivial, c50_con _ _ _ _ (ok.q _), trivial, ⟨by decide, by decide⟩, trivial, c50_con _ _ _ _ (ok.q _), trivial, ⟨by decide, by decide⟩, trivial, c50_con _ _ _ _ (ok.q _), trivial, ⟨by decide, by decide⟩, trivial, c50_con _ _ _ _ (ok.q _), trivial, ⟨by decide, by decide⟩, trivial, c50_con _ _ _ _ (ok.q _), trivial, ⟨by decide, by decide⟩, trivial, c50_con _ _ _ _ (ok.q _), trivial, ⟨by decide, by decide⟩, trivial, trivial, c51_con _ _ m1, trivial, trivial, trivial, trivial, c51_con _ _ m2, trivial, trivial, trivial, trivial, c52_con _ (ok.s _), trivial, trivial, ⟨by decide, by decide⟩, trivial, trivial, c52_con _ (ok.s _), trivial, trivial, ⟨by decide, by decide⟩, trivial, trivial, c52_con _ (ok.s _), trivial, trivial, ⟨by decide, by decide⟩, by kernel_rfl⟩
theorem own_con (s : LS) (ok : s.ok) : Con Try.prog 15 [lsV s] [] (lsV s) [] :=
  con_pureX (own_vc s.ts _) (tsV_below _) (by repeat' first | exact trivial | exact cp_con _ ok | exact rfl | apply And.intro)
theorem awake_vc (t1 : TS) (t2 : TS) (t3 : TS) (t4 : TS) (t5 : TS) (t6 : TS) (t7 : TS) (A : Nat → Int) (M : Nat → Int) (W : Nat → Int) (V : AV) : runK Try.prog 1000000 (.call 12 [] (mkH [])) (Orc.cal [] (AV.tup [tsV t1, AV.i .i64 0]) [] (Orc.cal [] (AV.tup [tsV t2, AV.i .i64 0]) [] (Orc.cal [] (AV.tup [tsV t3, AV.i .i64 0]) [] (Orc.cal [] (svN 1 A M W) [] (oc 16 (Orc.s (Orc.t (Orc.cal [] (AV.b true) [] (Orc.t (Orc.f (Orc.c (Orc.cal [] (AV.tup [tsV t4, AV.i .i64 0]) [] (Orc.cal [] (AV.tup [tsV t5, AV.i .i64 0]) [] (Orc.cal [] (AV.tup [tsV t6, AV.i .i64 0]) [] (oc 13 (Orc.s (Orc.t (Orc.c (Orc.t (Orc.t (Orc.t (Orc.t (Orc.s (Orc.cal [] (AV.b false) [] (Orc.t (Orc.t (oc 2 (Orc.cal [] (tsV t7) [] (oc 7 Orc.z)))))) (Orc.f (Orc.f (oc 7 Orc.z)))))))))) (Orc.f (Orc.f (Orc.f (Orc.f (Orc.f (oc 10 Orc.z)))))))))))))))) (Orc.f (Orc.f (Orc.t (Orc.c Orc.z)))))))))) (fun r _ => rvIs V r) = (Con Try.prog
  10 [AV.agg zL, AV.i .i64 3, AV.i .i64 0, AV.i .i64 1] [] (AV.tup [tsV t1, AV.i .i64 0]) [] ∧ Con Try.prog 10 [tsV t1, AV.i .i64 3, AV.i .i64 1, AV.i .i64 1] [] (AV.tup [tsV t2, AV.i .i64 0]) [] ∧ Con Try.prog 10 [tsV t2, AV.i .i64 3, AV.i .i64 2, AV.i .i64 2] [] (AV.tup [tsV t3, AV.i .i64 0]) [] ∧ Con Try.prog 14 [tsV t3, AV.i .i64 0] [] (svN 1 A M W) [] ∧ ((0 : Int) ≤ (0 : Int) ∧ (0 : Int) < (1 : Int)) ∧ True ∧ True ∧ ((!!(decide (A 0 = 3) && (decide (M 0 = 1) && (decide (W 0 = 2) && true)))) = true → (!!(decide (A 0 = 3) && (decide (M 0 = 1) && (decide (W 0 = 2) && true)))) = true ∧ Con Try.prog 13 [tsV t3] [] (AV.b true) [] ∧ (!!(decide (A 0 = 3) && (decide (M 0 = 1) && (decide (W 0 = 2) && true)))) = true ∧ True ∧ (!(decide (A 0 = 3) && (decide (M 0 = 1) && (decide (W 0 = 2) && true)))) = false ∧ Con Try.prog 10 [tsV t3, AV.i .i64 3, AV.i .i64 0, AV.i .i64 2] [] (AV.tup [tsV t4,
  AV.i .i64 0]) [] ∧ Con Try.prog 11 [tsV t4, AV.i .i64 3, AV.i .i64 1] [] (AV.tup [tsV t5, AV.i .i64 0]) [] ∧ Con Try.prog 11 [tsV t5, AV.i .i64 3, AV.i .i64 0] [] (AV.tup [tsV t6, AV.i .i64 0]) [] ∧ True ∧ True ∧ ((decide (TS.h t6 3 0 = 0) && (decide (TS.h t6 3 1 = 0) && (decide (TS.h t6 3 2 = 2) && true))) = true → True ∧ (decide (TS.h t6 3 0 = 0) && (decide (TS.h t6 3 1 = 0) && (decide (TS.h t6 3 2 = 2) && true))) = true ∧ (decide (TS.h t6 3 0 = 0) && (decide (TS.h t6 3 1 = 0) && (decide (TS.h t6 3 2 = 2) && true))) = true ∧ (decide (TS.h t6 3 0 = 0) && (decide (TS.h t6 3 1 = 0) && (decide (TS.h t6 3 2 = 2) && true))) = true ∧ (decide (TS.h t6 3 0 = 0) && (decide (TS.h t6 3 1 = 0) && (decide (TS.h t6 3 2 = 2) && true))) = true ∧ (decide (TS.h t6 3 0 = 0) && (decide (TS.h t6 3 1 = 0) && (decide (TS.h t6 3 2 = 2) && true))) = true ∧ (decide (Int.ofNat (TS.n t6 3) = 0) = true → Con
  Try.prog 24 [AV.i .i64 1, AV.i .i64 2] [] (AV.b false) [] ∧ decide (Int.ofNat (TS.n t6 3) = 0) = true ∧ True ∧ decide (Int.ofNat (TS.n t6 3) = 0) = true ∧ Con Try.prog 19 [tsV t6, AV.i .i64 2] [] (tsV t7) [] ∧ (AV.b (decide (TS.h t7 3 2 = 0))) = V) ∧ (decide (Int.ofNat (TS.n t6 3) = 0) = false → decide (Int.ofNat (TS.n t6 3) = 0) = false ∧ decide (Int.ofNat (TS.n t6 3) = 0) = false ∧ (AV.b false) = V)) ∧ ((decide (TS.h t6 3 0 = 0) && (decide (TS.h t6 3 1 = 0) && (decide (TS.h t6 3 2 = 2) && true))) = false → (decide (TS.h t6 3 0 = 0) && (decide (TS.h t6 3 1 = 0) && (decide (TS.h t6 3 2 = 2) && true))) = false ∧ (decide (TS.h t6 3 0 = 0) && (decide (TS.h t6 3 1 = 0) && (decide (TS.h t6 3 2 = 2) && true))) = false ∧ (decide (TS.h t6 3 0 = 0) && (decide (TS.h t6 3 1 = 0) && (decide (TS.h t6 3 2 = 2) && true))) = false ∧ (decide (TS.h t6 3 0 = 0) && (decide (TS.h t6 3 1 = 0) && (decide
  (TS.h t6 3 2 = 2) && true))) = false ∧ (decide (TS.h t6 3 0 = 0) && (decide (TS.h t6 3 1 = 0) && (decide (TS.h t6 3 2 = 2) && true))) = false ∧ (AV.b false) = V)) ∧ ((!!(decide (A 0 = 3) && (decide (M 0 = 1) && (decide (W 0 = 2) && true)))) = false → (!!(decide (A 0 = 3) && (decide (M 0 = 1) && (decide (W 0 = 2) && true)))) = false ∧ (!!(decide (A 0 = 3) && (decide (M 0 = 1) && (decide (W 0 = 2) && true)))) = false ∧ (!(decide (A 0 = 3) && (decide (M 0 = 1) && (decide (W 0 = 2) && true)))) = true ∧ (AV.b false) = V)) := by kernel_rfl
theorem goL_len : ∀ (q : List HQ) (h : Nat → Int), (goL h q).q.length ≤ q.length
  | [], h => Nat.le_refl _
  | x :: q, h => by
    unfold goL
    cases canB h x.a x.m with
    | true => exact Nat.le_trans (goL_len q _) (by simp)
    | false => exact Nat.le_refl _
theorem LS.ok.set {s : LS} (ok : s.ok) (l : Nat) {r : Rw} (h : r.q.length ≤ 1000) : (s.set l r).ok := by
  refine ⟨ok.m, ok.s, fun j => ?_⟩
  show ((s.set l r).row j).q.length ≤ _
  unfold LS.set
  cases hb : Nat.beq j l with
  | true => simp only [hb, cond_true]; omega
  | false => simp only [hb, cond_false]; exact ok.q j
theorem zS_ok : zS.ok := ⟨⟨by decide, by decide⟩, fun i => ⟨by show 0 ≤ _; omega, by show 0 ≤ _; omega, by show 0 ≤ _; omega, by show 0 ≤ _; omega⟩, fun l => by show 0 ≤ _; omega⟩
theorem askS_ok {s : LS} (ok : s.ok) (l k m : Int) : (askS s l k m).ok := by
  unfold askS
  cases h : okA s l k m with
  | false => exact zS_ok
  | true =>
    unfold okA at h
    simp only [Bool.and_eq_true] at h
    obtain ⟨h1, h2, h3, h4⟩ := h
    have hl : 0 ≤ l ∧ l < 19 := by simpa [isLockB] using h1
    have hk : 0 ≤ k ∧ k < 3 := by simpa [isServerB] using h2
    have ha := askR_ok (mayB_ok (va_row h4 (l := l.toNat) (by omega))) m hk
    exact ok.set _ (Nat.le_trans (goL_len _ _) ha.1)
theorem freeS_ok {s : LS} (ok : s.ok) (l k : Int) : (freeS s l k).ok := by
  unfold freeS
  cases h : okF s l k with
  | false => exact zS_ok
  | true =>
    unfold okF at h
    simp only [Bool.and_eq_true] at h
    obtain ⟨h1, h2, h4⟩ := h
    have hl : 0 ≤ l ∧ l < 19 := by simpa [isLockB] using h1
    have ha := freeR_ok (mayB_ok (va_row h4 (l := l.toNat) (by omega))) k
    exact ok.set _ (Nat.le_trans (goL_len _ _) ha.1)
theorem dropS_ok {s : LS} (ok : s.ok) (k : Int) : (dropS s k).ok := by
  unfold dropS
  cases h1 : isServerB k with
  | false => exact ok
  | true =>
    cases h2 : vaS s with
    | false => exact ok
    | true =>
      refine ⟨ok.m, ok.s, fun j => ?_⟩
      show ((dropN s k 19).row j).q.length ≤ _
      unfold dropN
      cases hb : Nat.blt j 19 with
      | true =>
        have hj : j < 19 := by rwa [Nat.blt_eq] at hb
        have ha := freeR_ok (mayB_ok (va_row h2 hj)) k
        have hg := goL_len (freeR (s.row j) k).q (freeR (s.row j) k).h
        simp only [hb, cond_true]
        have e : onR (freeR (s.row j) k) = goL (freeR (s.row j) k).h (freeR (s.row j) k).q := rfl
        rw [e]; omega
      | false => simp only [hb, cond_false]; exact ok.q j
def w1 : LS := askS zS 3 0 1
def w2 : LS := askS w1 3 1 1
def w3 : LS := askS w2 3 2 2
def w4 : LS := askS w3 3 0 2
def w5 : LS := freeS w4 3 1
def w6 : LS := freeS w5 3 0
def w7 : LS := dropS w6 2
theorem w1_ok : w1.ok := askS_ok zS_ok _ _ _
theorem w2_ok : w2.ok := askS_ok w1_ok _ _ _
theorem w3_ok : w3.ok := askS_ok w2_ok _ _ _
theorem w4_ok : w4.ok := askS_ok w3_ok _ _ _
theorem w5_ok : w5.ok := freeS_ok w4_ok _ _
theorem w6_ok : w6.ok := freeS_ok w5_ok _ _
theorem e1 : askE zS 3 0 1 = 0 := by kernel_rfl
theorem e2 : askE w1 3 1 1 = 0 := by kernel_rfl
theorem e3 : askE w2 3 2 2 = 0 := by kernel_rfl
theorem e4 : askE w3 3 0 2 = 0 := by kernel_rfl
theorem e5 : freeE w4 3 1 = 0 := by kernel_rfl
theorem e6 : freeE w5 3 0 = 0 := by kernel_rfl
theorem e3v : vaS w3 = true := by kernel_rfl
theorem e3h : hldS w3 0 = [⟨3, 1, 2⟩] := by kernel_rfl
theorem e6h : (w6.row 3).h 0 = 0 ∧ (w6.row 3).h 1 = 0 ∧ (w6.row 3).h 2 = 2 ∧ (w6.row 3).q = [] := ⟨by kernel_rfl, by kernel_rfl, by kernel_rfl, by kernel_rfl⟩
theorem e7h : (w7.row 3).h 2 = 0 := by kernel_rfl
theorem ask0_con (l k m : Int) : Con Try.prog 10 [.agg zL, .i .i64 l, .i .i64 k, .i .i64 m] [] (.tup [lsV (askS zS l k m), .i .i64 (askE zS l k m)]) [] :=
  (ask_con zS zS_ok l k m).pre ⟨.agg zL_vw, .refl _, .refl _, .refl _, trivial⟩
theorem awake_con : Con Try.prog 12 [] [] (.b true) [] := by
  have a1 : Con Try.prog 10 [.agg zL, .i .i64 3, .i .i64 0, .i .i64 1] [] (.tup [tsV w1.ts, .i .i64 (askE zS 3 0 1)]) [] := ask0_con 3 0 1
  have a2 : Con Try.prog 10 [tsV w1.ts, .i .i64 3, .i .i64 1, .i .i64 1] [] (.tup [tsV w2.ts, .i .i64 (askE w1 3 1 1)]) [] := ask_con w1 w1_ok 3 1 1
  have a3 : Con Try.prog 10 [tsV w2.ts, .i .i64 3, .i .i64 2, .i .i64 2] [] (.tup [tsV w3.ts, .i .i64 (askE w2 3 2 2)]) [] := ask_con w2 w2_ok 3 2 2
  have h3 : Con Try.prog 14 [tsV w3.ts, .i .i64 0] [] (svQ (hldS w3 0)) [] := holds_con w3 w3_ok 0
  have v3 : Con Try.prog 13 [tsV w3.ts] [] (.b (vaS w3)) [] := valid_con w3 w3_ok
  have a4 : Con Try.prog 10 [tsV w3.ts, .i .i64 3, .i .i64 0, .i .i64 2] [] (.tup [tsV w4.ts, .i .i64 (askE w3 3 0 2)]) [] := ask_con w3 w3_ok 3 0 2
  have f5 : Con Try.prog 11 [tsV w4.ts, .i .i64 3, .i .i64 1] [] (.tup [tsV w5.ts, .i .i64 (freeE w4 3 1)]) [] := free_con w4 w4_ok 3 1
  have f6 : Con Try.prog 11 [tsV w5.ts, .i .i64 3, .i .i64 0] [] (.tup [tsV w6.ts, .i .i64 (freeE w5 3 0)]) [] := free_con w5 w5_ok 3 0
  have d7 : Con Try.prog 19 [tsV w6.ts, .i .i64 2] [] (tsV w7.ts) [] := drop_con w6 w6_ok 2
  have gg : Con Try.prog 24 [.i .i64 1, .i .i64 2] [] (.b (goesB 1 2)) [] := goes_con 1 2
  have g0 : goesB 1 2 = false := by kernel_rfl
  rw [e1] at a1; rw [e2] at a2; rw [e3] at a3; rw [e3h] at h3; rw [e3v] at v3; rw [e4] at a4; rw [e5] at f5; rw [e6] at f6; rw [g0] at gg
  obtain ⟨q0, q1, q2, q3⟩ := e6h
  have r0 : w6.ts.h 3 0 = 0 := q0
  have r1 : w6.ts.h 3 1 = 0 := q1
  have r2 : w6.ts.h 3 2 = 2 := q2
  have r3 : w6.ts.n 3 = 0 := by show (w6.row 3).q.length = 0; rw [q3]; rfl
  have r7 : w7.ts.h 3 2 = 0 := e7h
  refine con_pureX (awake_vc w1.ts w2.ts w3.ts w4.ts w5.ts w6.ts w7.ts (qA [⟨3, 1, 2⟩]) (qM [⟨3, 1, 2⟩]) (qW [⟨3, 1, 2⟩]) _) rfl ?_
  generalize w1.ts = t1 at *
  generalize w2.ts = t2 at *
  generalize w3.ts = t3 at *
  generalize w4.ts = t4 at *
  generalize w5.ts = t5 at *
  generalize w6.ts = t6 at *
  generalize w7.ts = t7 at *
  refine ⟨a1, a2, a3, h3, ⟨by decide, by decide⟩, trivial, trivial, fun hX => ⟨hX, v3, hX, trivial, by simpa using hX, a4, f5, f6, trivial, trivial, fun hY => ⟨trivial, hY, hY, hY, hY, hY, fun hZ => ⟨gg, hZ, trivial, hZ, d7, ?_⟩, fun hZ => ?_⟩, fun hY => ?_⟩, fun hX => ?_⟩
  · rw [r7]; rfl
  · exfalso; rw [r3] at hZ; revert hZ; decide
  · exfalso; rw [r0, r1, r2] at hY; revert hY; decide
  · exfalso; revert hX; decide
end Go.Proofs.Lk
