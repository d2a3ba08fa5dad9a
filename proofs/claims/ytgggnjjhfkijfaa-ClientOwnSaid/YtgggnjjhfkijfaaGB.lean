/- Runs over unknown values, told by the kernel: part GB. -/
import Derived.Test.YtgggnjjhfkijfaaGA
set_option linter.unusedSimpArgs false
set_option linter.unusedVariables false
set_option maxRecDepth 20000
namespace Go.Proofs.Sv
open Go Go.Sim Go.Proofs Go.Proofs.Lk Go.Proofs.Ytgggnjjhfkijfaa
theorem gN_lq (L : Nat) (M : Nat) (f : Nat → Int) (g : Nat → Int) (c : Cm) (i : Nat) (h : decide (Int.ofNat i < Int.ofNat L) = true) (h1 : decide (f i = g i) = true) : LD
  Try.prog (loopAt Try.prog 42 0) 26 0 [(0, isv L f), (1, isv M g), (5, .i .i64 (Int.ofNat i))] [] (Orc.t (Orc.f Orc.z)) .nrm [] [(0, isv L f), (1, isv M g), (5, .i .i64
  (Int.ofNat i + 1))] [] 0 (fun Lf => decide (Int.ofNat i < Int.ofNat L) = true ∧ (0 ≤ Int.ofNat i ∧ Int.ofNat i < ↑L) ∧ True ∧ (0 ≤ Int.ofNat i ∧ Int.ofNat i < ↑M) ∧ True ∧
  (!decide (f i = g i)) = false ∧ rg (Int.ofNat i + 1) ∧ Lf) := by unfold LD LQ; kernel_rfl
theorem gR_lq (L : Nat) (M : Nat) (f : Nat → Int) (g : Nat → Int) (c : Cm) (i : Nat) (h : decide (Int.ofNat i < Int.ofNat L) = true) (h1 : decide (f i = g i) = false) : LD
  Try.prog (loopAt Try.prog 42 0) 26 0 [(0, isv L f), (1, isv M g), (5, .i .i64 (Int.ofNat i))] [] (Orc.t (Orc.t Orc.z)) .ret [] [(4, .b false)] [] 0 (fun Lf => decide
  (Int.ofNat i < Int.ofNat L) = true ∧ (0 ≤ Int.ofNat i ∧ Int.ofNat i < ↑L) ∧ True ∧ (0 ≤ Int.ofNat i ∧ Int.ofNat i < ↑M) ∧ True ∧ (!decide (f i = g i)) = true ∧ Lf)
  := by unfold LD LQ; kernel_rfl
theorem gE_lq (L : Nat) (M : Nat) (f : Nat → Int) (g : Nat → Int) (i : Nat) (h : decide (Int.ofNat i < Int.ofNat L) = false) : LD Try.prog (loopAt Try.prog 42 0) 26 0 [(0,
  isv L f), (1, isv M g), (5, .i .i64 (Int.ofNat i))] [] (Orc.f Orc.z) (.exit 0) [] [] [] 0 (fun Lf => decide (Int.ofNat i < Int.ofNat L) = false ∧ Lf)
  := by unfold LD LQ; kernel_rfl
theorem gA_vq (L : Nat) (M : Nat) (f : Nat → Int) (g : Nat → Int) (h : decide (Int.ofNat L = Int.ofNat M) = true) : VD Try.prog 42 [isv L f, isv M g] [] (Orc.f (Orc.lop [] [0,
  1, 5] 0 (XO.exit 0) [] [] Orc.z)) (.b true) [] [] 0 (fun Lf => (!decide (Int.ofNat L = Int.ofNat M)) = false ∧ LDoes Try.prog (loopAt Try.prog 42 0) 26 0 (mkT [(0, isv L
  f), (1, isv M g), (5, .i .i64 0)]) [] (XO.exit 0) (mkT []) [] ∧ Lf) := by unfold VD VQ; kernel_rfl
theorem gB_vq (L : Nat) (M : Nat) (f : Nat → Int) (g : Nat → Int) (h : decide (Int.ofNat L = Int.ofNat M) = true) : VD Try.prog 42 [isv L f, isv M g] [] (Orc.f (Orc.lop [] [0,
  1, 5] 0 XO.ret [(4, .b false)] [] Orc.z)) (.b false) [] [] 0 (fun Lf => (!decide (Int.ofNat L = Int.ofNat M)) = false ∧ LDoes Try.prog (loopAt Try.prog 42 0) 26 0 (mkT [(0,
  isv L f), (1, isv M g), (5, .i .i64 0)]) [] XO.ret (mkT [(4, .b false)]) [] ∧ Lf) := by unfold VD VQ; kernel_rfl
theorem gC_vq (L : Nat) (M : Nat) (f : Nat → Int) (g : Nat → Int) (h : decide (Int.ofNat L = Int.ofNat M) = false) : VD Try.prog 42 [isv L f, isv M g] [] (Orc.t Orc.z) (.b
  false) [] [] 0 (fun Lf => (!decide (Int.ofNat L = Int.ofNat M)) = true ∧ Lf) := by unfold VD VQ; kernel_rfl
theorem sc0_vq (L : Nat) (f : Nat → Int) (B : Bool) (k1 : Int) (k2 : Int) (k3 : Int) (k4 : Int) (k5 : Int) (k6 : Int) (k7 : Int) (k8 : Int) (k9 : Int) (c : Cm) (h : B = false)
  : VD Try.prog 22 [.agg [.i .i64 k1, .i .i64 k2, .i .i64 k3, .i .i64 k4, .i .i64 k5, .i .i64 k6, .i .i64 k7, .i .i64 k8, isv L f, .i .i64 k9], cmV c] [] (Orc.cal [] (.b B) []
  (Orc.t Orc.z)) (.b false) [] [] 2 (fun Lf => True ∧ True ∧ Con Try.prog 42 [isv L f, isv (Cm.mn c) (Cm.mf c)] [] (.b B) [] ∧ True ∧ (!B) = true ∧ Lf)
  := by unfold VD VQ; kernel_rfl
theorem sc1_vq (L : Nat) (f : Nat → Int) (B : Bool) (k1 : Int) (k2 : Int) (k3 : Int) (k4 : Int) (k5 : Int) (k6 : Int) (k7 : Int) (k8 : Int) (k9 : Int) (c : Cm) (h : B = true)
  (h1 : decide (k1 = c.k) = false) : VD Try.prog 22 [.agg [.i .i64 k1, .i .i64 k2, .i .i64 k3, .i .i64 k4, .i .i64 k5, .i .i64 k6, .i .i64 k7, .i .i64 k8, isv L f, .i .i64
  k9], cmV c] [] (Orc.cal [] (.b B) [] (Orc.f (Orc.f (Orc.f (Orc.f (Orc.f (Orc.f (Orc.f (oc 42 Orc.z))))))))) (.b false) [] [] 2 (fun Lf => True ∧ True ∧ Con Try.prog 42 [isv
  L f, isv (Cm.mn c) (Cm.mf c)] [] (.b B) [] ∧ True ∧ (!B) = false ∧ True ∧ True ∧ decide (k1 = Cm.k c) = false ∧ decide (k1 = Cm.k c) = false ∧ decide (k1 = Cm.k c) = false ∧
  decide (k1 = Cm.k c) = false ∧ decide (k1 = Cm.k c) = false ∧ decide (k1 = Cm.k c) = false ∧ Lf) := by unfold VD VQ; kernel_rfl
theorem sc2_vq (L : Nat) (f : Nat → Int) (B : Bool) (k1 : Int) (k2 : Int) (k3 : Int) (k4 : Int) (k5 : Int) (k6 : Int) (k7 : Int) (k8 : Int) (k9 : Int) (c : Cm) (h : B = true)
  (h1 : decide (k1 = c.k) = true) (h2 : decide (k2 = c.sv) = false) : VD Try.prog 22 [.agg [.i .i64 k1, .i .i64 k2, .i .i64 k3, .i .i64 k4, .i .i64 k5, .i .i64 k6, .i .i64 k7,
  .i .i64 k8, isv L f, .i .i64 k9], cmV c] [] (Orc.cal [] (.b B) [] (Orc.f (Orc.t (Orc.t (Orc.t (Orc.t (Orc.t (Orc.t (Orc.f (Orc.f (Orc.f (Orc.f (Orc.f (Orc.f (oc 36
  Orc.z))))))))))))))) (.b false) [] [] 2 (fun Lf => True ∧ True ∧ Con Try.prog 42 [isv L f, isv (Cm.mn c) (Cm.mf c)] [] (.b B) [] ∧ True ∧ (!B) = false ∧ True ∧ True ∧ decide
  (k1 = Cm.k c) = true ∧ True ∧ decide (k1 = Cm.k c) = true ∧ decide (k1 = Cm.k c) = true ∧ True ∧ decide (k1 = Cm.k c) = true ∧ decide (k1 = Cm.k c) = true ∧ decide (k1 = Cm.k
  c) = true ∧ decide (k2 = Cm.sv c) = false ∧ decide (k2 = Cm.sv c) = false ∧ decide (k2 = Cm.sv c) = false ∧ decide (k2 = Cm.sv c) = false ∧ decide (k2 = Cm.sv c) = false ∧
  decide (k2 = Cm.sv c) = false ∧ Lf) := by unfold VD VQ; kernel_rfl
theorem sc3_vq (L : Nat) (f : Nat → Int) (B : Bool) (k1 : Int) (k2 : Int) (k3 : Int) (k4 : Int) (k5 : Int) (k6 : Int) (k7 : Int) (k8 : Int) (k9 : Int) (c : Cm) (h : B = true)
  (h1 : decide (k1 = c.k) = true) (h2 : decide (k2 = c.sv) = true) (h3 : decide (k3 = c.bt) = false) : VD Try.prog 22 [.agg [.i .i64 k1, .i .i64 k2, .i .i64 k3, .i .i64 k4, .i
  .i64 k5, .i .i64 k6, .i .i64 k7, .i .i64 k8, isv L f, .i .i64 k9], cmV c] [] (Orc.cal [] (.b B) [] (Orc.f (Orc.t (Orc.t (Orc.t (Orc.t (Orc.t (Orc.t (Orc.t (Orc.t (Orc.t
  (Orc.t (Orc.t (Orc.t (Orc.f (Orc.f (Orc.f (Orc.f (Orc.f (Orc.f (oc 30 Orc.z))))))))))))))))))))) (.b false) [] [] 2 (fun Lf => True ∧ True ∧ Con Try.prog 42 [isv L f, isv
  (Cm.mn c) (Cm.mf c)] [] (.b B) [] ∧ True ∧ (!B) = false ∧ True ∧ True ∧ decide (k1 = Cm.k c) = true ∧ True ∧ decide (k1 = Cm.k c) = true ∧ decide (k1 = Cm.k c) = true ∧ True
  ∧ decide (k1 = Cm.k c) = true ∧ decide (k1 = Cm.k c) = true ∧ decide (k1 = Cm.k c) = true ∧ decide (k2 = Cm.sv c) = true ∧ True ∧ decide (k2 = Cm.sv c) = true ∧ decide (k2 =
  Cm.sv c) = true ∧ True ∧ decide (k2 = Cm.sv c) = true ∧ decide (k2 = Cm.sv c) = true ∧ decide (k2 = Cm.sv c) = true ∧ decide (k3 = Cm.bt c) = false ∧ decide (k3 = Cm.bt c) =
  false ∧ decide (k3 = Cm.bt c) = false ∧ decide (k3 = Cm.bt c) = false ∧ decide (k3 = Cm.bt c) = false ∧ decide (k3 = Cm.bt c) = false ∧ Lf) := by unfold VD VQ; kernel_rfl
theorem sc4_vq (L : Nat) (f : Nat → Int) (B : Bool) (k1 : Int) (k2 : Int) (k3 : Int) (k4 : Int) (k5 : Int) (k6 : Int) (k7 : Int) (k8 : Int) (k9 : Int) (c : Cm) (h : B = true)
  (h1 : decide (k1 = c.k) = true) (h2 : decide (k2 = c.sv) = true) (h3 : decide (k3 = c.bt) = true) (h4 : decide (k4 = c.sq) = false) : VD Try.prog 22 [.agg [.i .i64 k1, .i
  .i64 k2, .i .i64 k3, .i .i64 k4, .i .i64 k5, .i .i64 k6, .i .i64 k7, .i .i64 k8, isv L f, .i .i64 k9], cmV c] [] (Orc.cal [] (.b B) [] (Orc.f (Orc.t (Orc.t (Orc.t (Orc.t
  (Orc.t (Orc.t (Orc.t (Orc.t (Orc.t (Orc.t (Orc.t (Orc.t (Orc.t (Orc.t (Orc.t (Orc.t (Orc.t (Orc.t (Orc.f (Orc.f (Orc.f (Orc.f (Orc.f (Orc.f (oc 24
  Orc.z))))))))))))))))))))))))))) (.b false) [] [] 2 (fun Lf => True ∧ True ∧ Con Try.prog 42 [isv L f, isv (Cm.mn c) (Cm.mf c)] [] (.b B) [] ∧ True ∧ (!B) = false ∧ True ∧
  True ∧ decide (k1 = Cm.k c) = true ∧ True ∧ decide (k1 = Cm.k c) = true ∧ decide (k1 = Cm.k c) = true ∧ True ∧ decide (k1 = Cm.k c) = true ∧ decide (k1 = Cm.k c) = true ∧
  decide (k1 = Cm.k c) = true ∧ decide (k2 = Cm.sv c) = true ∧ True ∧ decide (k2 = Cm.sv c) = true ∧ decide (k2 = Cm.sv c) = true ∧ True ∧ decide (k2 = Cm.sv c) = true ∧ decide
  (k2 = Cm.sv c) = true ∧ decide (k2 = Cm.sv c) = true ∧ decide (k3 = Cm.bt c) = true ∧ True ∧ decide (k3 = Cm.bt c) = true ∧ decide (k3 = Cm.bt c) = true ∧ True ∧ decide (k3 =
  Cm.bt c) = true ∧ decide (k3 = Cm.bt c) = true ∧ decide (k3 = Cm.bt c) = true ∧ decide (k4 = Cm.sq c) = false ∧ decide (k4 = Cm.sq c) = false ∧ decide (k4 = Cm.sq c) = false
  ∧ decide (k4 = Cm.sq c) = false ∧ decide (k4 = Cm.sq c) = false ∧ decide (k4 = Cm.sq c) = false ∧ Lf) := by unfold VD VQ; kernel_rfl
theorem sc5_vq (L : Nat) (f : Nat → Int) (B : Bool) (k1 : Int) (k2 : Int) (k3 : Int) (k4 : Int) (k5 : Int) (k6 : Int) (k7 : Int) (k8 : Int) (k9 : Int) (c : Cm) (h : B = true)
  (h1 : decide (k1 = c.k) = true) (h2 : decide (k2 = c.sv) = true) (h3 : decide (k3 = c.bt) = true) (h4 : decide (k4 = c.sq) = true) (h5 : decide (k5 = c.gn) = false) : VD
  Try.prog 22 [.agg [.i .i64 k1, .i .i64 k2, .i .i64 k3, .i .i64 k4, .i .i64 k5, .i .i64 k6, .i .i64 k7, .i .i64 k8, isv L f, .i .i64 k9], cmV c] [] (Orc.cal [] (.b B) []
  (Orc.f (Orc.t (Orc.t (Orc.t (Orc.t (Orc.t (Orc.t (Orc.t (Orc.t (Orc.t (Orc.t (Orc.t (Orc.t (Orc.t (Orc.t (Orc.t (Orc.t (Orc.t (Orc.t (Orc.t (Orc.t (Orc.t (Orc.t (Orc.t (Orc.t
  (Orc.f (Orc.f (Orc.f (Orc.f (Orc.f (Orc.f (oc 18 Orc.z))))))))))))))))))))))))))))))))) (.b false) [] [] 2 (fun Lf => True ∧ True ∧ Con Try.prog 42 [isv L f, isv (Cm.mn c)
  (Cm.mf c)] [] (.b B) [] ∧ True ∧ (!B) = false ∧ True ∧ True ∧ decide (k1 = Cm.k c) = true ∧ True ∧ decide (k1 = Cm.k c) = true ∧ decide (k1 = Cm.k c) = true ∧ True ∧ decide
  (k1 = Cm.k c) = true ∧ decide (k1 = Cm.k c) = true ∧ decide (k1 = Cm.k c) = true ∧ decide (k2 = Cm.sv c) = true ∧ True ∧ decide (k2 = Cm.sv c) = true ∧ decide (k2 = Cm.sv c)
  = true ∧ True ∧ decide (k2 = Cm.sv c) = true ∧ decide (k2 = Cm.sv c) = true ∧ decide (k2 = Cm.sv c) = true ∧ decide (k3 = Cm.bt c) = true ∧ True ∧ decide (k3 = Cm.bt c) =
  true ∧ decide (k3 = Cm.bt c) = true ∧ True ∧ decide (k3 = Cm.bt c) = true ∧ decide (k3 = Cm.bt c) = true ∧ decide (k3 = Cm.bt c) = true ∧ decide (k4 = Cm.sq c) = true ∧ True
  ∧ decide (k4 = Cm.sq c) = true ∧ decide (k4 = Cm.sq c) = true ∧ True ∧ decide (k4 = Cm.sq c) = true ∧ decide (k4 = Cm.sq c) = true ∧ decide (k4 = Cm.sq c) = true ∧ decide (k5
  = Cm.gn c) = false ∧ decide (k5 = Cm.gn c) = false ∧ decide (k5 = Cm.gn c) = false ∧ decide (k5 = Cm.gn c) = false ∧ decide (k5 = Cm.gn c) = false ∧ decide (k5 = Cm.gn c) =
  false ∧ Lf) := by unfold VD VQ; kernel_rfl
theorem sc6_vq (L : Nat) (f : Nat → Int) (B : Bool) (k1 : Int) (k2 : Int) (k3 : Int) (k4 : Int) (k5 : Int) (k6 : Int) (k7 : Int) (k8 : Int) (k9 : Int) (c : Cm) (h : B = true)
  (h1 : decide (k1 = c.k) = true) (h2 : decide (k2 = c.sv) = true) (h3 : decide (k3 = c.bt) = true) (h4 : decide (k4 = c.sq) = true) (h5 : decide (k5 = c.gn) = true) (h6 :
  decide (k6 = c.lk) = false) : VD Try.prog 22 [.agg [.i .i64 k1, .i .i64 k2, .i .i64 k3, .i .i64 k4, .i .i64 k5, .i .i64 k6, .i .i64 k7, .i .i64 k8, isv L f, .i .i64 k9], cmV
  c] [] (Orc.cal [] (.b B) [] (Orc.f (Orc.t (Orc.t (Orc.t (Orc.t (Orc.t (Orc.t (Orc.t (Orc.t (Orc.t (Orc.t (Orc.t (Orc.t (Orc.t (Orc.t (Orc.t (Orc.t (Orc.t (Orc.t (Orc.t (Orc.t
  (Orc.t (Orc.t (Orc.t (Orc.t (Orc.t (Orc.t (Orc.t (Orc.t (Orc.t (Orc.t (Orc.f (Orc.f (Orc.f (Orc.f (Orc.f (Orc.f (oc 12 Orc.z))))))))))))))))))))))))))))))))))))))) (.b false)
  [] [] 2 (fun Lf => True ∧ True ∧ Con Try.prog 42 [isv L f, isv (Cm.mn c) (Cm.mf c)] [] (.b B) [] ∧ True ∧ (!B) = false ∧ True ∧ True ∧ decide (k1 = Cm.k c) = true ∧ True ∧
  decide (k1 = Cm.k c) = true ∧ decide (k1 = Cm.k c) = true ∧ True ∧ decide (k1 = Cm.k c) = true ∧ decide (k1 = Cm.k c) = true ∧ decide (k1 = Cm.k c) = true ∧ decide (k2 =
  Cm.sv c) = true ∧ True ∧ decide (k2 = Cm.sv c) = true ∧ decide (k2 = Cm.sv c) = true ∧ True ∧ decide (k2 = Cm.sv c) = true ∧ decide (k2 = Cm.sv c) = true ∧ decide (k2 = Cm.sv
  c) = true ∧ decide (k3 = Cm.bt c) = true ∧ True ∧ decide (k3 = Cm.bt c) = true ∧ decide (k3 = Cm.bt c) = true ∧ True ∧ decide (k3 = Cm.bt c) = true ∧ decide (k3 = Cm.bt c) =
  true ∧ decide (k3 = Cm.bt c) = true ∧ decide (k4 = Cm.sq c) = true ∧ True ∧ decide (k4 = Cm.sq c) = true ∧ decide (k4 = Cm.sq c) = true ∧ True ∧ decide (k4 = Cm.sq c) = true
  ∧ decide (k4 = Cm.sq c) = true ∧ decide (k4 = Cm.sq c) = true ∧ decide (k5 = Cm.gn c) = true ∧ True ∧ decide (k5 = Cm.gn c) = true ∧ decide (k5 = Cm.gn c) = true ∧ True ∧
  decide (k5 = Cm.gn c) = true ∧ decide (k5 = Cm.gn c) = true ∧ decide (k5 = Cm.gn c) = true ∧ decide (k6 = Cm.lk c) = false ∧ decide (k6 = Cm.lk c) = false ∧ decide (k6 =
  Cm.lk c) = false ∧ decide (k6 = Cm.lk c) = false ∧ decide (k6 = Cm.lk c) = false ∧ decide (k6 = Cm.lk c) = false ∧ Lf) := by unfold VD VQ; kernel_rfl
theorem sc7_vq (L : Nat) (f : Nat → Int) (B : Bool) (k1 : Int) (k2 : Int) (k3 : Int) (k4 : Int) (k5 : Int) (k6 : Int) (k7 : Int) (k8 : Int) (k9 : Int) (c : Cm) (h : B = true)
  (h1 : decide (k1 = c.k) = true) (h2 : decide (k2 = c.sv) = true) (h3 : decide (k3 = c.bt) = true) (h4 : decide (k4 = c.sq) = true) (h5 : decide (k5 = c.gn) = true) (h6 :
  decide (k6 = c.lk) = true) (h7 : decide (k7 = c.md) = false) : VD Try.prog 22 [.agg [.i .i64 k1, .i .i64 k2, .i .i64 k3, .i .i64 k4, .i .i64 k5, .i .i64 k6, .i .i64 k7, .i
  .i64 k8, isv L f, .i .i64 k9], cmV c] [] (Orc.cal [] (.b B) [] (Orc.f (Orc.t (Orc.t (Orc.t (Orc.t (Orc.t (Orc.t (Orc.t (Orc.t (Orc.t (Orc.t (Orc.t (Orc.t (Orc.t (Orc.t (Orc.t
  (Orc.t (Orc.t (Orc.t (Orc.t (Orc.t (Orc.t (Orc.t (Orc.t (Orc.t (Orc.t (Orc.t (Orc.t (Orc.t (Orc.t (Orc.t (Orc.t (Orc.t (Orc.t (Orc.t (Orc.t (Orc.t (Orc.f (Orc.f (Orc.f (Orc.f
  (Orc.f (Orc.f (oc 6 Orc.z))))))))))))))))))))))))))))))))))))))))))))) (.b false) [] [] 2 (fun Lf => True ∧ True ∧ Con Try.prog 42 [isv L f, isv (Cm.mn c) (Cm.mf c)] [] (.b
  B) [] ∧ True ∧ (!B) = false ∧ True ∧ True ∧ decide (k1 = Cm.k c) = true ∧ True ∧ decide (k1 = Cm.k c) = true ∧ decide (k1 = Cm.k c) = true ∧ True ∧ decide (k1 = Cm.k c) =
  true ∧ decide (k1 = Cm.k c) = true ∧ decide (k1 = Cm.k c) = true ∧ decide (k2 = Cm.sv c) = true ∧ True ∧ decide (k2 = Cm.sv c) = true ∧ decide (k2 = Cm.sv c) = true ∧ True ∧
  decide (k2 = Cm.sv c) = true ∧ decide (k2 = Cm.sv c) = true ∧ decide (k2 = Cm.sv c) = true ∧ decide (k3 = Cm.bt c) = true ∧ True ∧ decide (k3 = Cm.bt c) = true ∧ decide (k3 =
  Cm.bt c) = true ∧ True ∧ decide (k3 = Cm.bt c) = true ∧ decide (k3 = Cm.bt c) = true ∧ decide (k3 = Cm.bt c) = true ∧ decide (k4 = Cm.sq c) = true ∧ True ∧ decide (k4 = Cm.sq
  c) = true ∧ decide (k4 = Cm.sq c) = true ∧ True ∧ decide (k4 = Cm.sq c) = true ∧ decide (k4 = Cm.sq c) = true ∧ decide (k4 = Cm.sq c) = true ∧ decide (k5 = Cm.gn c) = true ∧
  True ∧ decide (k5 = Cm.gn c) = true ∧ decide (k5 = Cm.gn c) = true ∧ True ∧ decide (k5 = Cm.gn c) = true ∧ decide (k5 = Cm.gn c) = true ∧ decide (k5 = Cm.gn c) = true ∧
  decide (k6 = Cm.lk c) = true ∧ True ∧ decide (k6 = Cm.lk c) = true ∧ decide (k6 = Cm.lk c) = true ∧ True ∧ decide (k6 = Cm.lk c) = true ∧ decide (k6 = Cm.lk c) = true ∧
  decide (k6 = Cm.lk c) = true ∧ decide (k7 = Cm.md c) = false ∧ decide (k7 = Cm.md c) = false ∧ decide (k7 = Cm.md c) = false ∧ decide (k7 = Cm.md c) = false ∧ decide (k7 =
  Cm.md c) = false ∧ decide (k7 = Cm.md c) = false ∧ Lf) := by unfold VD VQ; kernel_rfl
theorem sc8_vq (L : Nat) (f : Nat → Int) (B : Bool) (k1 : Int) (k2 : Int) (k3 : Int) (k4 : Int) (k5 : Int) (k6 : Int) (k7 : Int) (k8 : Int) (k9 : Int) (c : Cm) (h : B = true)
  (h1 : decide (k1 = c.k) = true) (h2 : decide (k2 = c.sv) = true) (h3 : decide (k3 = c.bt) = true) (h4 : decide (k4 = c.sq) = true) (h5 : decide (k5 = c.gn) = true) (h6 :
  decide (k6 = c.lk) = true) (h7 : decide (k7 = c.md) = true) (h8 : decide (k8 = c.ot) = false) : VD Try.prog 22 [.agg [.i .i64 k1, .i .i64 k2, .i .i64 k3, .i .i64 k4, .i .i64
  k5, .i .i64 k6, .i .i64 k7, .i .i64 k8, isv L f, .i .i64 k9], cmV c] [] (Orc.cal [] (.b B) [] (Orc.f (Orc.t (Orc.t (Orc.t (Orc.t (Orc.t (Orc.t (Orc.t (Orc.t (Orc.t (Orc.t
  (Orc.t (Orc.t (Orc.t (Orc.t (Orc.t (Orc.t (Orc.t (Orc.t (Orc.t (Orc.t (Orc.t (Orc.t (Orc.t (Orc.t (Orc.t (Orc.t (Orc.t (Orc.t (Orc.t (Orc.t (Orc.t (Orc.t (Orc.t (Orc.t (Orc.t
  (Orc.t (Orc.t (Orc.t (Orc.t (Orc.t (Orc.t (Orc.t (Orc.f (Orc.f (Orc.f (Orc.f (Orc.f (Orc.f Orc.z)))))))))))))))))))))))))))))))))))))))))))))))))) (.b false) [] [] 2 (fun Lf
  => True ∧ True ∧ Con Try.prog 42 [isv L f, isv (Cm.mn c) (Cm.mf c)] [] (.b B) [] ∧ True ∧ (!B) = false ∧ True ∧ True ∧ decide (k1 = Cm.k c) = true ∧ True ∧ decide (k1 = Cm.k
  c) = true ∧ decide (k1 = Cm.k c) = true ∧ True ∧ decide (k1 = Cm.k c) = true ∧ decide (k1 = Cm.k c) = true ∧ decide (k1 = Cm.k c) = true ∧ decide (k2 = Cm.sv c) = true ∧ True
  ∧ decide (k2 = Cm.sv c) = true ∧ decide (k2 = Cm.sv c) = true ∧ True ∧ decide (k2 = Cm.sv c) = true ∧ decide (k2 = Cm.sv c) = true ∧ decide (k2 = Cm.sv c) = true ∧ decide (k3
  = Cm.bt c) = true ∧ True ∧ decide (k3 = Cm.bt c) = true ∧ decide (k3 = Cm.bt c) = true ∧ True ∧ decide (k3 = Cm.bt c) = true ∧ decide (k3 = Cm.bt c) = true ∧ decide (k3 =
  Cm.bt c) = true ∧ decide (k4 = Cm.sq c) = true ∧ True ∧ decide (k4 = Cm.sq c) = true ∧ decide (k4 = Cm.sq c) = true ∧ True ∧ decide (k4 = Cm.sq c) = true ∧ decide (k4 = Cm.sq
  c) = true ∧ decide (k4 = Cm.sq c) = true ∧ decide (k5 = Cm.gn c) = true ∧ True ∧ decide (k5 = Cm.gn c) = true ∧ decide (k5 = Cm.gn c) = true ∧ True ∧ decide (k5 = Cm.gn c) =
  true ∧ decide (k5 = Cm.gn c) = true ∧ decide (k5 = Cm.gn c) = true ∧ decide (k6 = Cm.lk c) = true ∧ True ∧ decide (k6 = Cm.lk c) = true ∧ decide (k6 = Cm.lk c) = true ∧ True
  ∧ decide (k6 = Cm.lk c) = true ∧ decide (k6 = Cm.lk c) = true ∧ decide (k6 = Cm.lk c) = true ∧ decide (k7 = Cm.md c) = true ∧ True ∧ decide (k7 = Cm.md c) = true ∧ decide (k7
  = Cm.md c) = true ∧ True ∧ decide (k7 = Cm.md c) = true ∧ decide (k7 = Cm.md c) = true ∧ decide (k7 = Cm.md c) = true ∧ decide (k8 = Cm.ot c) = false ∧ decide (k8 = Cm.ot c)
  = false ∧ decide (k8 = Cm.ot c) = false ∧ decide (k8 = Cm.ot c) = false ∧ decide (k8 = Cm.ot c) = false ∧ decide (k8 = Cm.ot c) = false ∧ Lf) := by unfold VD VQ; kernel_rfl
theorem sc9_vq (L : Nat) (f : Nat → Int) (B : Bool) (k1 : Int) (k2 : Int) (k3 : Int) (k4 : Int) (k5 : Int) (k6 : Int) (k7 : Int) (k8 : Int) (k9 : Int) (c : Cm) (h : B = true)
  (h1 : decide (k1 = c.k) = true) (h2 : decide (k2 = c.sv) = true) (h3 : decide (k3 = c.bt) = true) (h4 : decide (k4 = c.sq) = true) (h5 : decide (k5 = c.gn) = true) (h6 :
  decide (k6 = c.lk) = true) (h7 : decide (k7 = c.md) = true) (h8 : decide (k8 = c.ot) = true) (h9 : decide (k9 = c.d) = false) : VD Try.prog 22 [.agg [.i .i64 k1, .i .i64 k2,
  .i .i64 k3, .i .i64 k4, .i .i64 k5, .i .i64 k6, .i .i64 k7, .i .i64 k8, isv L f, .i .i64 k9], cmV c] [] (Orc.cal [] (.b B) [] (Orc.f (Orc.t (Orc.t (Orc.t (Orc.t (Orc.t (Orc.t
  (Orc.t (Orc.t (Orc.t (Orc.t (Orc.t (Orc.t (Orc.t (Orc.t (Orc.t (Orc.t (Orc.t (Orc.t (Orc.t (Orc.t (Orc.t (Orc.t (Orc.t (Orc.t (Orc.t (Orc.t (Orc.t (Orc.t (Orc.t (Orc.t (Orc.t
  (Orc.t (Orc.t (Orc.t (Orc.t (Orc.t (Orc.t (Orc.t (Orc.t (Orc.t (Orc.t (Orc.t (Orc.t (Orc.t (Orc.t (Orc.t (Orc.t (Orc.t Orc.z))))))))))))))))))))))))))))))))))))))))))))))))))
  (.b (decide (k9 = Cm.d c))) [] [] 2 (fun Lf => True ∧ True ∧ Con Try.prog 42 [isv L f, isv (Cm.mn c) (Cm.mf c)] [] (.b B) [] ∧ True ∧ (!B) = false ∧ True ∧ True ∧ decide (k1
  = Cm.k c) = true ∧ True ∧ decide (k1 = Cm.k c) = true ∧ decide (k1 = Cm.k c) = true ∧ True ∧ decide (k1 = Cm.k c) = true ∧ decide (k1 = Cm.k c) = true ∧ decide (k1 = Cm.k c)
  = true ∧ decide (k2 = Cm.sv c) = true ∧ True ∧ decide (k2 = Cm.sv c) = true ∧ decide (k2 = Cm.sv c) = true ∧ True ∧ decide (k2 = Cm.sv c) = true ∧ decide (k2 = Cm.sv c) =
  true ∧ decide (k2 = Cm.sv c) = true ∧ decide (k3 = Cm.bt c) = true ∧ True ∧ decide (k3 = Cm.bt c) = true ∧ decide (k3 = Cm.bt c) = true ∧ True ∧ decide (k3 = Cm.bt c) = true
  ∧ decide (k3 = Cm.bt c) = true ∧ decide (k3 = Cm.bt c) = true ∧ decide (k4 = Cm.sq c) = true ∧ True ∧ decide (k4 = Cm.sq c) = true ∧ decide (k4 = Cm.sq c) = true ∧ True ∧
  decide (k4 = Cm.sq c) = true ∧ decide (k4 = Cm.sq c) = true ∧ decide (k4 = Cm.sq c) = true ∧ decide (k5 = Cm.gn c) = true ∧ True ∧ decide (k5 = Cm.gn c) = true ∧ decide (k5 =
  Cm.gn c) = true ∧ True ∧ decide (k5 = Cm.gn c) = true ∧ decide (k5 = Cm.gn c) = true ∧ decide (k5 = Cm.gn c) = true ∧ decide (k6 = Cm.lk c) = true ∧ True ∧ decide (k6 = Cm.lk
  c) = true ∧ decide (k6 = Cm.lk c) = true ∧ True ∧ decide (k6 = Cm.lk c) = true ∧ decide (k6 = Cm.lk c) = true ∧ decide (k6 = Cm.lk c) = true ∧ decide (k7 = Cm.md c) = true ∧
  True ∧ decide (k7 = Cm.md c) = true ∧ decide (k7 = Cm.md c) = true ∧ True ∧ decide (k7 = Cm.md c) = true ∧ decide (k7 = Cm.md c) = true ∧ decide (k7 = Cm.md c) = true ∧
  decide (k8 = Cm.ot c) = true ∧ True ∧ decide (k8 = Cm.ot c) = true ∧ decide (k8 = Cm.ot c) = true ∧ True ∧ decide (k8 = Cm.ot c) = true ∧ decide (k8 = Cm.ot c) = true ∧
  decide (k8 = Cm.ot c) = true ∧ Lf) := by unfold VD VQ; kernel_rfl
theorem sc10_vq (L : Nat) (f : Nat → Int) (B : Bool) (k1 : Int) (k2 : Int) (k3 : Int) (k4 : Int) (k5 : Int) (k6 : Int) (k7 : Int) (k8 : Int) (k9 : Int) (c : Cm) (h : B = true)
  (h1 : decide (k1 = c.k) = true) (h2 : decide (k2 = c.sv) = true) (h3 : decide (k3 = c.bt) = true) (h4 : decide (k4 = c.sq) = true) (h5 : decide (k5 = c.gn) = true) (h6 :
  decide (k6 = c.lk) = true) (h7 : decide (k7 = c.md) = true) (h8 : decide (k8 = c.ot) = true) (h9 : decide (k9 = c.d) = true) : VD Try.prog 22 [.agg [.i .i64 k1, .i .i64 k2,
  .i .i64 k3, .i .i64 k4, .i .i64 k5, .i .i64 k6, .i .i64 k7, .i .i64 k8, isv L f, .i .i64 k9], cmV c] [] (Orc.cal [] (.b B) [] (Orc.f (Orc.t (Orc.t (Orc.t (Orc.t (Orc.t (Orc.t
  (Orc.t (Orc.t (Orc.t (Orc.t (Orc.t (Orc.t (Orc.t (Orc.t (Orc.t (Orc.t (Orc.t (Orc.t (Orc.t (Orc.t (Orc.t (Orc.t (Orc.t (Orc.t (Orc.t (Orc.t (Orc.t (Orc.t (Orc.t (Orc.t (Orc.t
  (Orc.t (Orc.t (Orc.t (Orc.t (Orc.t (Orc.t (Orc.t (Orc.t (Orc.t (Orc.t (Orc.t (Orc.t (Orc.t (Orc.t (Orc.t (Orc.t (Orc.t Orc.z))))))))))))))))))))))))))))))))))))))))))))))))))
  (.b (decide (k9 = Cm.d c))) [] [] 2 (fun Lf => True ∧ True ∧ Con Try.prog 42 [isv L f, isv (Cm.mn c) (Cm.mf c)] [] (.b B) [] ∧ True ∧ (!B) = false ∧ True ∧ True ∧ decide (k1
  = Cm.k c) = true ∧ True ∧ decide (k1 = Cm.k c) = true ∧ decide (k1 = Cm.k c) = true ∧ True ∧ decide (k1 = Cm.k c) = true ∧ decide (k1 = Cm.k c) = true ∧ decide (k1 = Cm.k c)
  = true ∧ decide (k2 = Cm.sv c) = true ∧ True ∧ decide (k2 = Cm.sv c) = true ∧ decide (k2 = Cm.sv c) = true ∧ True ∧ decide (k2 = Cm.sv c) = true ∧ decide (k2 = Cm.sv c) =
  true ∧ decide (k2 = Cm.sv c) = true ∧ decide (k3 = Cm.bt c) = true ∧ True ∧ decide (k3 = Cm.bt c) = true ∧ decide (k3 = Cm.bt c) = true ∧ True ∧ decide (k3 = Cm.bt c) = true
  ∧ decide (k3 = Cm.bt c) = true ∧ decide (k3 = Cm.bt c) = true ∧ decide (k4 = Cm.sq c) = true ∧ True ∧ decide (k4 = Cm.sq c) = true ∧ decide (k4 = Cm.sq c) = true ∧ True ∧
  decide (k4 = Cm.sq c) = true ∧ decide (k4 = Cm.sq c) = true ∧ decide (k4 = Cm.sq c) = true ∧ decide (k5 = Cm.gn c) = true ∧ True ∧ decide (k5 = Cm.gn c) = true ∧ decide (k5 =
  Cm.gn c) = true ∧ True ∧ decide (k5 = Cm.gn c) = true ∧ decide (k5 = Cm.gn c) = true ∧ decide (k5 = Cm.gn c) = true ∧ decide (k6 = Cm.lk c) = true ∧ True ∧ decide (k6 = Cm.lk
  c) = true ∧ decide (k6 = Cm.lk c) = true ∧ True ∧ decide (k6 = Cm.lk c) = true ∧ decide (k6 = Cm.lk c) = true ∧ decide (k6 = Cm.lk c) = true ∧ decide (k7 = Cm.md c) = true ∧
  True ∧ decide (k7 = Cm.md c) = true ∧ decide (k7 = Cm.md c) = true ∧ True ∧ decide (k7 = Cm.md c) = true ∧ decide (k7 = Cm.md c) = true ∧ decide (k7 = Cm.md c) = true ∧
  decide (k8 = Cm.ot c) = true ∧ True ∧ decide (k8 = Cm.ot c) = true ∧ decide (k8 = Cm.ot c) = true ∧ True ∧ decide (k8 = Cm.ot c) = true ∧ decide (k8 = Cm.ot c) = true ∧
  decide (k8 = Cm.ot c) = true ∧ Lf) := by unfold VD VQ; kernel_rfl
def cm0 : Cm := ⟨0, 0, 0, 0, 0, 0, 0, 0, 0, fun _ => 0, 0⟩
def eqN (f g : Nat → Int) : Nat → Nat → Bool
  | 0, _ => true
  | m + 1, i => decide (f i = g i) && eqN f g m (i + 1)
theorem rsi_con (L M : Nat) (hL : L ≤ 1152921504606846976) (f g : Nat → Int) : Con Try.prog 42 [isv L f, isv M g] [] (.b (decide (Int.ofNat L = Int.ofNat M) && eqN f g L 0)) [] := by
  cases h : decide (Int.ofNat L = Int.ofNat M) with
  | false => rw [Bool.false_and]; exact con_d (gC_vq L M f g h) (by repeat' first | exact trivial | assumption | exact boT h | exact rfl | apply And.intro)
  | true =>
    rw [Bool.true_and]
    have hLM : L = M := Int.ofNat.inj (of_decide_eq_true h)
    subst hLM
    have key : ∀ (x : XO) (l' : List (Nat × AV)) (b : Bool), (b = false ∧ x = .ret ∧ l' = [(4, .b false)]) ∨ (b = true ∧ x = .exit 0 ∧ l' = []) → eqN f g L 0 = b →
        LDoes Try.prog (loopAt Try.prog 42 0) 26 0 (mkT [(0, isv L f), (1, isv L g), (5, .i .i64 0)]) [] x (mkT l') [] := by
      intro x l' b hx h
      refine loop_q (fun i : Nat => ([(0, isv L f), (1, isv L g), (5, .i .i64 (Int.ofNat i))], [])) (fun i => L - i) (fun i => i ≤ L ∧ eqN f g (L - i) i = b) (fun _ => Nat.le_refl _) ?_ 0 ⟨Nat.zero_le _, h⟩
      rintro i ⟨hi, hp⟩
      rcases Nat.lt_or_ge i L with hlt | q
      · have h0 : decide (Int.ofNat i < Int.ofNat L) = true := decide_eq_true (by simp; omega)
        have bi : (0 : Int) ≤ Int.ofNat i ∧ Int.ofNat i < (↑L : Int) := ⟨by simp, by simp; omega⟩
        have ri : rg (Int.ofNat i + 1) := ⟨by simp <;> omega, by simp <;> omega⟩
        rw [show L - i = (L - (i + 1)) + 1 by omega] at hp
        unfold eqN at hp
        cases h1 : decide (f i = g i) with
        | false =>
          rw [h1, Bool.false_and] at hp
          subst hp
          obtain ⟨_, rfl, rfl⟩ : (false = false ∧ x = .ret ∧ l' = [(4, .b false)]) := by rcases hx with c | c; exact c; exact absurd c.1 (by decide)
          exact rd_out (gR_lq L L f g cm0 i h0 h1) (by repeat' first | exact trivial | assumption | exact boT h1 | exact rfl | apply And.intro) rfl rfl (.refl _) (.refl _)
        | true =>
          rw [h1, Bool.true_and] at hp
          exact rd_nrm (gN_lq L L f g cm0 i h0 h1) (by repeat' first | exact trivial | assumption | exact boF h1 | exact rfl | apply And.intro) (i + 1) ⟨hlt, hp⟩ (by show L - (i + 1) < L - i; omega) rfl (.refl _) (.refl _)
      · obtain rfl : i = L := by omega
        rw [show i - i = 0 by omega] at hp
        have hb : b = true := hp.symm
        subst hb
        obtain ⟨_, rfl, rfl⟩ : (true = true ∧ x = .exit 0 ∧ l' = []) := by rcases hx with c | c; exact absurd c.1 (by decide); exact c
        exact rd_out (gE_lq i i f g i (decide_eq_false (by simp))) (by repeat' first | exact trivial | assumption | (simp; done) | exact rfl | apply And.intro) rfl rfl (.refl _) (.refl _)
    cases h2 : eqN f g L 0 with
    | true =>
      have lp := key _ _ true (.inr ⟨rfl, rfl, rfl⟩) h2
      exact con_d (gA_vq L L f g h) (by repeat' first | exact trivial | assumption | exact boF h | exact rfl | apply And.intro)
    | false =>
      have lp := key _ _ false (.inl ⟨rfl, rfl, rfl⟩) h2
      exact con_d (gB_vq L L f g h) (by repeat' first | exact trivial | assumption | exact boF h | exact rfl | apply And.intro)
theorem eqN_self (f : Nat → Int) : ∀ m i, eqN f f m i = true
  | 0, _ => rfl
  | m + 1, i => by unfold eqN; rw [eqN_self f m (i + 1), decide_eq_true rfl]; rfl
theorem rscm_con (k1 k2 k3 k4 k5 k6 k7 k8 k9 : Int) (L : Nat) (hL : L ≤ 1152921504606846976) (f : Nat → Int) (c : Cm) :
    Con Try.prog 22 [.agg [.i .i64 k1, .i .i64 k2, .i .i64 k3, .i .i64 k4, .i .i64 k5, .i .i64 k6, .i .i64 k7, .i .i64 k8, isv L f, .i .i64 k9], cmV c] [] (.b ((decide (Int.ofNat L = Int.ofNat c.mn) && eqN f c.mf L 0) && (decide (k1 = c.k) && (decide (k2 = c.sv) && (decide (k3 = c.bt) && (decide (k4 = c.sq) && (decide (k5 = c.gn) && (decide (k6 = c.lk) && (decide (k7 = c.md) && (decide (k8 = c.ot) && (decide (k9 = c.d)))))))))))) [] := by
  have mc := rsi_con L c.mn hL f c.mf
  generalize (decide (Int.ofNat L = Int.ofNat c.mn) && eqN f c.mf L 0) = B at mc ⊢
  cases B with
  | false => rw [Bool.false_and]; exact con_d (sc0_vq L f false k1 k2 k3 k4 k5 k6 k7 k8 k9 c rfl) (by repeat' first | exact trivial | assumption | exact rfl | apply And.intro)
  | true =>
    rw [Bool.true_and]
    cases h1 : decide (k1 = c.k) with
    | false => rw [Bool.false_and]; exact con_d (sc1_vq L f true k1 k2 k3 k4 k5 k6 k7 k8 k9 c rfl (by assumption)) (by repeat' first | exact trivial | assumption | exact rfl | apply And.intro)
    | true =>
      rw [Bool.true_and]
      cases h2 : decide (k2 = c.sv) with
      | false => rw [Bool.false_and]; exact con_d (sc2_vq L f true k1 k2 k3 k4 k5 k6 k7 k8 k9 c rfl (by assumption) (by assumption)) (by repeat' first | exact trivial | assumption | exact rfl | apply And.intro)
      | true =>
        rw [Bool.true_and]
        cases h3 : decide (k3 = c.bt) with
        | false => rw [Bool.false_and]; exact con_d (sc3_vq L f true k1 k2 k3 k4 k5 k6 k7 k8 k9 c rfl (by assumption) (by assumption) (by assumption)) (by repeat' first | exact trivial | assumption | exact rfl | apply And.intro)
        | true =>
          rw [Bool.true_and]
          cases h4 : decide (k4 = c.sq) with
          | false => rw [Bool.false_and]; exact con_d (sc4_vq L f true k1 k2 k3 k4 k5 k6 k7 k8 k9 c rfl (by assumption) (by assumption) (by assumption) (by assumption)) (by repeat' first | exact trivial | assumption | exact rfl | apply And.intro)
          | true =>
            rw [Bool.true_and]
            cases h5 : decide (k5 = c.gn) with
            | false => rw [Bool.false_and]; exact con_d (sc5_vq L f true k1 k2 k3 k4 k5 k6 k7 k8 k9 c rfl (by assumption) (by assumption) (by assumption) (by assumption) (by assumption)) (by repeat' first | exact trivial | assumption | exact rfl | apply And.intro)
            | true =>
              rw [Bool.true_and]
              cases h6 : decide (k6 = c.lk) with
              | false => rw [Bool.false_and]; exact con_d (sc6_vq L f true k1 k2 k3 k4 k5 k6 k7 k8 k9 c rfl (by assumption) (by assumption) (by assumption) (by assumption) (by assumption) (by assumption)) (by repeat' first | exact trivial | assumption | exact rfl | apply And.intro)
              | true =>
                rw [Bool.true_and]
                cases h7 : decide (k7 = c.md) with
                | false => rw [Bool.false_and]; exact con_d (sc7_vq L f true k1 k2 k3 k4 k5 k6 k7 k8 k9 c rfl (by assumption) (by assumption) (by assumption) (by assumption) (by assumption) (by assumption) (by assumption)) (by repeat' first | exact trivial | assumption | exact rfl | apply And.intro)
                | true =>
                  rw [Bool.true_and]
                  cases h8 : decide (k8 = c.ot) with
                  | false => rw [Bool.false_and]; exact con_d (sc8_vq L f true k1 k2 k3 k4 k5 k6 k7 k8 k9 c rfl (by assumption) (by assumption) (by assumption) (by assumption) (by assumption) (by assumption) (by assumption) (by assumption)) (by repeat' first | exact trivial | assumption | exact rfl | apply And.intro)
                  | true =>
                    rw [Bool.true_and]
                    cases h9 : decide (k9 = c.d) with
                    | false => exact (con_d (sc9_vq L f true k1 k2 k3 k4 k5 k6 k7 k8 k9 c rfl (by assumption) (by assumption) (by assumption) (by assumption) (by assumption) (by assumption) (by assumption) (by assumption) (by assumption)) (by repeat' first | exact trivial | assumption | exact rfl | apply And.intro)).post (by rw [h9]; exact .refl _) (OVL.refl _)
                    | true => exact (con_d (sc10_vq L f true k1 k2 k3 k4 k5 k6 k7 k8 k9 c rfl (by assumption) (by assumption) (by assumption) (by assumption) (by assumption) (by assumption) (by assumption) (by assumption) (by assumption)) (by repeat' first | exact trivial | assumption | exact rfl | apply And.intro)).post (by rw [h9]; exact .refl _) (OVL.refl _)
def tt1 (x : Int) : Prop := (!!decide (x = x)) = true
def tt0 (x : Int) : Prop := (!decide (x = x)) = false
theorem tt1_ (x : Int) : tt1 x := by unfold tt1; simp
theorem tt0_ (x : Int) : tt0 x := by unfold tt0; simp
theorem siE_lq (n : Nat) (f : Nat → Int) (h1 : decide (Int.ofNat n < Int.ofNat n) = false) : LD Try.prog (loopAt Try.prog 42 0) 26 0 [(0, isv n f), (1, isv n f), (5, .i .i64
  (Int.ofNat n))] [] (Orc.f Orc.z) (.exit 0) [] [] [] 0 (fun Lf => decide (Int.ofNat n < Int.ofNat n) = false ∧ Lf) := by unfold LD LQ; kernel_rfl
theorem siR_lq (n : Nat) (f : Nat → Int) (i : Nat) (h1 : decide (Int.ofNat i < Int.ofNat n) = true) : LD Try.prog (loopAt Try.prog 42 0) 26 0 [(0, isv n f), (1, isv n f), (5,
  .i .i64 (Int.ofNat i))] [] (Orc.t (Orc.f Orc.z)) .nrm [] [(0, isv n f), (1, isv n f), (5, .i .i64 (Int.ofNat i + 1))] [] 0 (fun Lf => decide (Int.ofNat i < Int.ofNat n) =
  true ∧ (0 ≤ Int.ofNat i ∧ Int.ofNat i < ↑n) ∧ True ∧ (0 ≤ Int.ofNat i ∧ Int.ofNat i < ↑n) ∧ True ∧ tt0 (f i) ∧ rg (Int.ofNat i + 1) ∧ Lf) := by unfold LD LQ; kernel_rfl
theorem si_vq (n : Nat) (f : Nat → Int) : VD Try.prog 42 [isv n f, isv n f] [] (Orc.f (Orc.lop [] [0, 1, 5] 0 (XO.exit 0) [] [] Orc.z)) (.b true) [] [] 0 (fun Lf => tt0
  (Int.ofNat n) ∧ LDoes Try.prog (loopAt Try.prog 42 0) 26 0 (mkT [(0, isv n f), (1, isv n f), (5, .i .i64 0)]) [] (XO.exit 0) (mkT []) [] ∧ Lf)
  := by unfold VD VQ; kernel_rfl
theorem sc_vq (e : Int) (n m : Nat) (f g : Nat → Int) : VD Try.prog 39 [.agg [.i .i64 e, isv n f, isv m g], .agg [.i .i64 e, isv n f, isv m g]] [] (Orc.t (Orc.t (Orc.t (Orc.t
  (Orc.t (Orc.cal [] (.b true) [] (Orc.t (oc 5 (Orc.cal [] (.b true) [] (Orc.c Orc.z)))))))))) (.b true) [] [] 2 (fun Lf => True ∧ True ∧ decide (e = e) = true ∧ True ∧ decide
  (e = e) = true ∧ decide (e = e) = true ∧ True ∧ decide (e = e) = true ∧ decide (e = e) = true ∧ Con Try.prog 42 [isv n f, isv n f] [] (.b true) [] ∧ decide (e = e) = true ∧
  True ∧ True ∧ Con Try.prog 42 [isv m g, isv m g] [] (.b true) [] ∧ Lf) := by unfold VD VQ; kernel_rfl
theorem svE_lq (b : Mb) (h1 : decide (Int.ofNat b.dn < Int.ofNat b.dn) = false) : LD Try.prog (loopAt Try.prog 19 0) 61 2 [(2, .p 0 0), (3, .p 1 0), (5, .i .i64 (Int.ofNat
  b.dn))] [some (vwO b), some (vwO b)] (Orc.f Orc.z) (.exit 0) [0, 1] [] [some (vwO b), some (vwO b)] 2 (fun Lf => True ∧ decide (Int.ofNat (Mb.dn b) < Int.ofNat (Mb.dn b)) =
  false ∧ Lf) := by unfold LD LQ; kernel_rfl
theorem svR_lq (b : Mb) (i : Nat) (h1 : decide (Int.ofNat i < Int.ofNat b.dn) = true) (h2 : (!(decide (b.dA i = b.dA i) && (decide (b.dM i = b.dM i) && (decide (b.dW i = b.dW
  i) && true)))) = false) : LD Try.prog (loopAt Try.prog 19 0) 61 2 [(2, .p 0 0), (3, .p 1 0), (5, .i .i64 (Int.ofNat i))] [some (vwO b), some (vwO b)] (Orc.t (Orc.f Orc.z))
  .nrm [0, 1] [(2, .p 0 0), (3, .p 1 0), (5, .i .i64 (Int.ofNat i + 1))] [some (vwO b), some (vwO b)] 2 (fun Lf => True ∧ decide (Int.ofNat i < Int.ofNat (Mb.dn b)) = true ∧
  True ∧ (0 ≤ Int.ofNat i ∧ Int.ofNat i < ↑(Mb.dn b)) ∧ True ∧ True ∧ (0 ≤ Int.ofNat i ∧ Int.ofNat i < ↑(Mb.dn b)) ∧ True ∧ True ∧ (!(decide (Mb.dA b i = Mb.dA b i) && (decide
  (Mb.dM b i = Mb.dM b i) && (decide (Mb.dW b i = Mb.dW b i) && true)))) = false ∧ rg (Int.ofNat i + 1) ∧ Lf) := by unfold LD LQ; kernel_rfl
theorem sv_vq (b : Mb) : VD Try.prog 19 [.agg (vwL b), .agg (vwL b)] [] (Orc.t (Orc.t (Orc.t (Orc.t (Orc.t (Orc.f (Orc.t (Orc.t (Orc.t (Orc.t (Orc.t (Orc.cal [] (.b true) []
  (Orc.t (Orc.f (oc 5 (Orc.cal [] (.b true) [] (oc 10 (Orc.f (Orc.lop [0, 1] [2, 3, 5] 2 (XO.exit 0) [] [some (vwO b), some (vwO b)] Orc.z))))))))))))))))))) (.b true) [] [] 2
  (fun Lf => True ∧ True ∧ tt1 (Mb.x b 6) ∧ True ∧ tt1 (Mb.x b 6) ∧ tt1 (Mb.x b 6) ∧ True ∧ tt1 (Mb.x b 6) ∧ tt1 (Mb.x b 6) ∧ tt0 (Mb.x b 6) ∧ tt1 (Mb.x b 7) ∧ True ∧ tt1 (Mb.x
  b 7) ∧ tt1 (Mb.x b 7) ∧ True ∧ tt1 (Mb.x b 7) ∧ tt1 (Mb.x b 7) ∧ Con Try.prog 39 [.agg [.i .i64 (Mb.x b 8), isv (Mb.mn b) (Mb.mf b), isv (Mb.sn b) (Mb.sf b)], .agg [.i .i64
  (Mb.x b 8), isv (Mb.mn b) (Mb.mf b), isv (Mb.sn b) (Mb.sf b)]] [] (.b true) [] ∧ tt1 (Mb.x b 7) ∧ True ∧ tt0 (Mb.x b 7) ∧ True ∧ True ∧ Con Try.prog 40 [svN (Mb.hn b) (Mb.hA
  b) (Mb.hM b) (Mb.hW b), svN (Mb.hn b) (Mb.hA b) (Mb.hM b) (Mb.hW b)] [] (.b true) [] ∧ True ∧ True ∧ True ∧ tt0 (Int.ofNat (Mb.dn b)) ∧ LDoes Try.prog (loopAt Try.prog 19
  0) 61 2 (mkT [(2, .p 0 0), (3, .p 1 0), (5, .i .i64 0)]) [some (vwO b), some (vwO b)] (XO.exit 0) (mkT []) [some (vwO b), some (vwO b)] ∧ Lf) := by unfold VD VQ; kernel_rfl
theorem si_lp (n : Nat) (hn : n ≤ 1152921504606846976) (f : Nat → Int) : LDoes Try.prog (loopAt Try.prog 42 0) 26 0 (mkT [(0, isv n f), (1, isv n f), (5, .i .i64 0)]) [] (.exit 0) (mkT []) [] := by
  refine loop_q (fun i : Nat => ([(0, isv n f), (1, isv n f), (5, .i .i64 (Int.ofNat i))], [])) (fun i => n - i) (fun i => i ≤ n) (fun _ => Nat.zero_le _) ?_ 0 (Nat.zero_le _)
  intro i hi
  rcases Nat.lt_or_ge i n with hlt | q
  · have h1 : decide (Int.ofNat i < Int.ofNat n) = true := decide_eq_true (by simp; omega)
    have bi : (0 : Int) ≤ Int.ofNat i ∧ Int.ofNat i < (↑n : Int) := ⟨by simp, by simp; omega⟩
    have ri : rg (Int.ofNat i + 1) := ⟨by simp <;> omega, by simp <;> omega⟩
    exact rd_nrm (siR_lq n f i h1) (by repeat' first | exact trivial | exact tt1_ _ | exact tt0_ _ | assumption | exact bi | exact ri | exact rfl | (simp; done) | apply And.intro) (i + 1) hlt (by show n - (i + 1) < n - i; omega) rfl (.refl _) (.refl _)
  · obtain rfl : i = n := Nat.le_antisymm hi q
    exact rd_out (siE_lq i f (decide_eq_false (by simp))) (by repeat' first | exact trivial | exact tt1_ _ | exact tt0_ _ | (simp; done) | exact rfl | apply And.intro) rfl rfl (.refl _) (.refl _)
theorem si_con (n : Nat) (hn : n ≤ 1152921504606846976) (f : Nat → Int) : Con Try.prog 42 [isv n f, isv n f] [] (.b true) [] :=
  con_d (si_vq ..) (by repeat' first | exact trivial | exact tt1_ _ | exact tt0_ _ | exact si_lp n hn f | (simp; done) | exact rfl | apply And.intro)
theorem sc_con (e : Int) (n m : Nat) (f g : Nat → Int) (hn : n ≤ 1152921504606846976) (hm : m ≤ 1152921504606846976) : Con Try.prog 39 [.agg [.i .i64 e, isv n f, isv m g], .agg [.i .i64 e, isv n f, isv m g]] [] (.b true) [] :=
  con_d (sc_vq ..) (by repeat' first | exact trivial | exact tt1_ _ | exact tt0_ _ | exact si_con _ hn _ | exact si_con _ hm _ | (simp; done) | exact rfl | apply And.intro)
theorem sv_lp (b : Mb) (hn : b.dn ≤ 1152921504606846976) : LDoes Try.prog (loopAt Try.prog 19 0) 61 2 (mkT [(2, .p 0 0), (3, .p 1 0), (5, .i .i64 0)]) [some (vwO b), some (vwO b)] (.exit 0) (mkT []) [some (vwO b), some (vwO b)] := by
  refine loop_q (fun i : Nat => ([(2, .p 0 0), (3, .p 1 0), (5, .i .i64 (Int.ofNat i))], [some (vwO b), some (vwO b)])) (fun i => b.dn - i) (fun i => i ≤ b.dn) (fun _ => Nat.le_refl _) ?_ 0 (Nat.zero_le _)
  intro i hi
  rcases Nat.lt_or_ge i b.dn with hlt | q
  · have h1 : decide (Int.ofNat i < Int.ofNat b.dn) = true := decide_eq_true (by simp; omega)
    have bi : (0 : Int) ≤ Int.ofNat i ∧ Int.ofNat i < (↑b.dn : Int) := ⟨by simp, by simp; omega⟩
    have ri : rg (Int.ofNat i + 1) := ⟨by simp <;> omega, by simp <;> omega⟩
    have h2 : (!(decide (b.dA i = b.dA i) && (decide (b.dM i = b.dM i) && (decide (b.dW i = b.dW i) && true)))) = false := by simp
    exact rd_nrm (svR_lq b i h1 h2) (by repeat' first | exact trivial | exact tt1_ _ | exact tt0_ _ | assumption | exact bi | exact ri | exact rfl | (simp; done) | apply And.intro) (i + 1) hlt (by show b.dn - (i + 1) < b.dn - i; omega) rfl (.refl _) (.refl _)
  · have e : i = b.dn := Nat.le_antisymm hi q
    subst e
    exact rd_out (svE_lq b (decide_eq_false (by simp))) (by repeat' first | exact trivial | exact tt1_ _ | exact tt0_ _ | (simp; done) | exact rfl | apply And.intro) rfl rfl (.refl _) (.refl _)
theorem shN_con (n : Nat) (A M W : Nat → Int) (hn : n ≤ 1152921504606846976) : Con Try.prog 40 [svN n A M W, svN n A M W] [] (.b true) [] := con_pureX (sh_vc _ _ _ _ _) rfl ⟨by simp, sh_lp _ _ _ _ hn, rfl⟩
theorem sv_con (b : Mb) (h : b.mn ≤ 17592186044416 ∧ b.sn ≤ 17592186044416 ∧ b.hn ≤ 5864062014805 ∧ b.dn ≤ 5864062014805) : Con Try.prog 19 [.agg (vwL b), .agg (vwL b)] [] (.b true) [] :=
  con_d (sv_vq ..) (by repeat' first | exact trivial | exact tt1_ _ | exact tt0_ _ | exact sc_con _ _ _ _ _ (by omega) (by omega) | exact shN_con _ _ _ _ (by omega) | exact sv_lp b (by omega) | (simp; done) | exact rfl | apply And.intro)
end Go.Proofs.Sv
