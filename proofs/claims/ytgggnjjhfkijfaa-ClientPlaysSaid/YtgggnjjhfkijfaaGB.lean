/- Runs over unknown values, told by the kernel: part GB. -/
import Derived.Test.YtgggnjjhfkijfaaGA
set_option linter.unusedSimpArgs false
set_option linter.unusedVariables false
set_option maxRecDepth 20000
namespace Go.Proofs.Sv
open Go Go.Sim Go.Proofs Go.Proofs.Lk Go.Proofs.Ytgggnjjhfkijfaa
theorem gN_lq (L : Nat) (M : Nat) (f : Nat → Int) (g : Nat → Int) (c : Cm) (i : Nat) (h : decide (Int.ofNat i < Int.ofNat L) = true) (h1 : decide (f i = g i) = true) : LD
  Try.prog (loopAt Try.prog 42 0) 26 0 [(0, isv L f), (1, isv M g), (5, .i .i64 (Int.ofNat i))] [] (Orc.t (Orc.f Orc.z)) .nrm [] [(0, isv L f), (1, isv M g), (5, .i .i64
  (Int.ofNat i + 1))] [] 0 (fun Lf => decide (Int.ofNat i < Int.ofNat L) = true ∧ (0 ≤ Int.ofNat i ∧ Int.ofNat i < ↑L) ∧ True ∧ (0 ≤ Int.ofNat i ∧ Int.ofNat i < ↑M) ∧ True ∧
  (!decide (f i = g i)) = false ∧ rg (Int.ofNat i + 1) ∧ Lf) := by unfold LD LQ; kernel_rfl
theorem gR_lq (L : Nat) (M : Nat) (f : Nat → Int) (g : Nat → Int) (c : Cm) (i : Nat) (h : decide (Int.ofNat i < Int.ofNat L) = true) (h1 : decide (f i = g i) = false) : LD
  Try.prog (loopAt Try.prog 42 0) 26 0 [(0, isv L f), (1, isv M g), (5, .i .i64 (Int.ofNat i))] [] (Orc.t (Orc.t Orc.z)) .ret [] [(4, .b false)] [] 0 (fun Lf => decide
  (Int.ofNat i < Int.ofNat L) = true ∧ (0 ≤ Int.ofNat i ∧ Int.ofNat i < ↑L) ∧ True ∧ (0 ≤ Int.ofNat i ∧ Int.ofNat i < ↑M) ∧ True ∧ (!decide (f i = g i)) = true ∧ Lf)
  := by unfold LD LQ; kernel_rfl
theorem gE_lq (L : Nat) (M : Nat) (f : Nat → Int) (g : Nat → Int) (i : Nat) (h : decide (Int.ofNat i < Int.ofNat L) = false) : LD Try.prog (loopAt Try.prog 42 0) 26 0 [(0,
  isv L f), (1, isv M g), (5, .i .i64 (Int.ofNat i))] [] (Orc.f Orc.z) (.exit 0) [] [] [] 0 (fun Lf => decide (Int.ofNat i < Int.ofNat L) = false ∧ Lf)
  := by unfold LD LQ; kernel_rfl
theorem gA_vq (L : Nat) (M : Nat) (f : Nat → Int) (g : Nat → Int) (h : decide (Int.ofNat L = Int.ofNat M) = true) : VD Try.prog 42 [isv L f, isv M g] [] (Orc.f (Orc.lop [] [0,
  1, 5] 0 (XO.exit 0) [] [] Orc.z)) (.b true) [] [] 0 (fun Lf => (!decide (Int.ofNat L = Int.ofNat M)) = false ∧ LDoes Try.prog (loopAt Try.prog 42 0) 26 0 (mkT [(0, isv L
  f), (1, isv M g), (5, .i .i64 0)]) [] (XO.exit 0) (mkT []) [] ∧ Lf) := by unfold VD VQ; kernel_rfl
theorem gB_vq (L : Nat) (M : Nat) (f : Nat → Int) (g : Nat → Int) (h : decide (Int.ofNat L = Int.ofNat M) = true) : VD Try.prog 42 [isv L f, isv M g] [] (Orc.f (Orc.lop [] [0,
  1, 5] 0 XO.ret [(4, .b false)] [] Orc.z)) (.b false) [] [] 0 (fun Lf => (!decide (Int.ofNat L = Int.ofNat M)) = false ∧ LDoes Try.prog (loopAt Try.prog 42 0) 26 0 (mkT [(0,
  isv L f), (1, isv M g), (5, .i .i64 0)]) [] XO.ret (mkT [(4, .b false)]) [] ∧ Lf) := by unfold VD VQ; kernel_rfl
theorem gC_vq (L : Nat) (M : Nat) (f : Nat → Int) (g : Nat → Int) (h : decide (Int.ofNat L = Int.ofNat M) = false) : VD Try.prog 42 [isv L f, isv M g] [] (Orc.t Orc.z) (.b
  false) [] [] 0 (fun Lf => (!decide (Int.ofNat L = Int.ofNat M)) = true ∧ Lf) := by unfold VD VQ; kernel_rfl
theorem sc0_vq (L : Nat) (f : Nat → Int) (B : Bool) (k1 : Int) (k2 : Int) (k3 : Int) (k4 : Int) (k5 : Int) (k6 : Int) (k7 : Int) (k8 : Int) (k9 : Int) (c : Cm) (h : B = false)
  : VD Try.prog 22 [.agg [.i .i64 k1, .i .i64 k2, .i .i64 k3, .i .i64 k4, .i .i64 k5, .i .i64 k6, .i .i64 k7, .i .i64 k8, isv L f, .i .i64 k9], cmV c] [] (Orc.cal [] (.b B) []
  (Orc.t Orc.z)) (.b false) [] [] 2 (fun Lf => True ∧ True ∧ Con Try.prog 42 [isv L f, isv (Cm.mn c) (Cm.mf c)] [] (.b B) [] ∧ True ∧ (!B) = true ∧ Lf)
  := by unfold VD VQ; kernel_rfl
theorem sc1_vq (L : Nat) (f : Nat → Int) (B : Bool) (k1 : Int) (k2 : Int) (k3 : Int) (k4 : Int) (k5 : Int) (k6 : Int) (k7 : Int) (k8 : Int) (k9 : Int) (c : Cm) (h : B = true)
  (h1 : decide (k1 = c.k) = false) : VD Try.prog 22 [.agg [.i .i64 k1, .i .i64 k2, .i .i64 k3, .i .i64 k4, .i .i64 k5, .i .i64 k6, .i .i64 k7, .i .i64 k8, isv L f, .i .i64
  k9], cmV c] [] (Orc.cal [] (.b B) [] (Orc.f (Orc.f (Orc.f (Orc.f (Orc.f (Orc.f (Orc.f (oc 42 Orc.z))))))))) (.b false) [] [] 2 (fun Lf => True ∧ True ∧ Con Try.prog 42 [isv
  L f, isv (Cm.mn c) (Cm.mf c)] [] (.b B) [] ∧ True ∧ (!B) = false ∧ True ∧ True ∧ decide (k1 = Cm.k c) = false ∧ decide (k1 = Cm.k c) = false ∧ decide (k1 = Cm.k c) = false ∧
  decide (k1 = Cm.k c) = false ∧ decide (k1 = Cm.k c) = false ∧ decide (k1 = Cm.k c) = false ∧ Lf) := by unfold VD VQ; kernel_rfl
theorem sc2_vq (L : Nat) (f : Nat → Int) (B : Bool) (k1 : Int) (k2 : Int) (k3 : Int) (k4 : Int) (k5 : Int) (k6 : Int) (k7 : Int) (k8 : Int) (k9 : Int) (c : Cm) (h : B = true)
  (h1 : decide (k1 = c.k) = true) (h2 : decide (k2 = c.sv) = false) : VD Try.prog 22 [.agg [.i .i64 k1, .i .i64 k2, .i .i64 k3, .i .i64 k4, .i .i64 k5, .i .i64 k6, .i .i64 k7,
  .i .i64 k8, isv L f, .i .i64 k9], cmV c] [] (Orc.cal [] (.b B) [] (Orc.f (Orc.t (Orc.t (Orc.t (Orc.t (Orc.t (Orc.t (Orc.f (Orc.f (Orc.f (Orc.f (Orc.f (Orc.f (oc 36
  Orc.z))))))))))))))) (.b false) [] [] 2 (fun Lf => True ∧ True ∧ Con Try.prog 42 [isv L f, isv (Cm.mn c) (Cm.mf c)] [] (.b B) [] ∧ True ∧ (!B) = false ∧ True ∧ True ∧ decide
  (k1 = Cm.k c) = true ∧ True ∧ decide (k1 = Cm.k c) = true ∧ decide (k1 = Cm.k c) = true ∧ True ∧ decide (k1 = Cm.k c) = true ∧ decide (k1 = Cm.k c) = true ∧ decide (k1 = Cm.k
  c) = true ∧ decide (k2 = Cm.sv c) = false ∧ decide (k2 = Cm.sv c) = false ∧ decide (k2 = Cm.sv c) = false ∧ decide (k2 = Cm.sv c) = false ∧ decide (k2 = Cm.sv c) = false ∧
  decide (k2 = Cm.sv c) = false ∧ Lf) := by unfold VD VQ; kernel_rfl
theorem sc3_vq (L : Nat) (f : Nat → Int) (B : Bool) (k1 : Int) (k2 : Int) (k3 : Int) (k4 : Int) (k5 : Int) (k6 : Int) (k7 : Int) (k8 : Int) (k9 : Int) (c : Cm) (h : B = true)
  (h1 : decide (k1 = c.k) = true) (h2 : decide (k2 = c.sv) = true) (h3 : decide (k3 = c.bt) = false) : VD Try.prog 22 [.agg [.i .i64 k1, .i .i64 k2, .i .i64 k3, .i .i64 k4, .i
  .i64 k5, .i .i64 k6, .i .i64 k7, .i .i64 k8, isv L f, .i .i64 k9], cmV c] [] (Orc.cal [] (.b B) [] (Orc.f (Orc.t (Orc.t (Orc.t (Orc.t (Orc.t (Orc.t (Orc.t (Orc.t (Orc.t
  (Orc.t (Orc.t (Orc.t (Orc.f (Orc.f (Orc.f (Orc.f (Orc.f (Orc.f (oc 30 Orc.z))))))))))))))))))))) (.b false) [] [] 2 (fun Lf => True ∧ True ∧ Con Try.prog 42 [isv L f, isv
  (Cm.mn c) (Cm.mf c)] [] (.b B) [] ∧ True ∧ (!B) = false ∧ True ∧ True ∧ decide (k1 = Cm.k c) = true ∧ True ∧ decide (k1 = Cm.k c) = true ∧ decide (k1 = Cm.k c) = true ∧ True
  ∧ decide (k1 = Cm.k c) = true ∧ decide (k1 = Cm.k c) = true ∧ decide (k1 = Cm.k c) = true ∧ decide (k2 = Cm.sv c) = true ∧ True ∧ decide (k2 = Cm.sv c) = true ∧ decide (k2 =
  Cm.sv c) = true ∧ True ∧ decide (k2 = Cm.sv c) = true ∧ decide (k2 = Cm.sv c) = true ∧ decide (k2 = Cm.sv c) = true ∧ decide (k3 = Cm.bt c) = false ∧ decide (k3 = Cm.bt c) =
  false ∧ decide (k3 = Cm.bt c) = false ∧ decide (k3 = Cm.bt c) = false ∧ decide (k3 = Cm.bt c) = false ∧ decide (k3 = Cm.bt c) = false ∧ Lf) := by unfold VD VQ; kernel_rfl
theorem sc4_vq (L : Nat) (f : Nat → Int) (B : Bool) (k1 : Int) (k2 : Int) (k3 : Int) (k4 : Int) (k5 : Int) (k6 : Int) (k7 : Int) (k8 : Int) (k9 : Int) (c : Cm) (h : B = true)
  (h1 : decide (k1 = c.k) = true) (h2 : decide (k2 = c.sv) = true) (h3 : decide (k3 = c.bt) = true) (h4 : decide (k4 = c.sq) = false) : VD Try.prog 22 [.agg [.i .i64 k1, .i
  .i64 k2, .i .i64 k3, .i .i64 k4, .i .i64 k5, .i .i64 k6, .i .i64 k7, .i .i64 k8, isv L f, .i .i64 k9], cmV c] [] (Orc.cal [] (.b B) [] (Orc.f (Orc.t (Orc.t (Orc.t (Orc.t
  (Orc.t (Orc.t (Orc.t (Orc.t (Orc.t (Orc.t (Orc.t (Orc.t (Orc.t (Orc.t (Orc.t (Orc.t (Orc.t (Orc.t (Orc.f (Orc.f (Orc.f (Orc.f (Orc.f (Orc.f (oc 24
  Orc.z))))))))))))))))))))))))))) (.b false) [] [] 2 (fun Lf => True ∧ True ∧ Con Try.prog 42 [isv L f, isv (Cm.mn c) (Cm.mf c)] [] (.b B) [] ∧ True ∧ (!B) = false ∧ True ∧
  True ∧ decide (k1 = Cm.k c) = true ∧ True ∧ decide (k1 = Cm.k c) = true ∧ decide (k1 = Cm.k c) = true ∧ True ∧ decide (k1 = Cm.k c) = true ∧ decide (k1 = Cm.k c) = true ∧
  decide (k1 = Cm.k c) = true ∧ decide (k2 = Cm.sv c) = true ∧ True ∧ decide (k2 = Cm.sv c) = true ∧ decide (k2 = Cm.sv c) = true ∧ True ∧ decide (k2 = Cm.sv c) = true ∧ decide
  (k2 = Cm.sv c) = true ∧ decide (k2 = Cm.sv c) = true ∧ decide (k3 = Cm.bt c) = true ∧ True ∧ decide (k3 = Cm.bt c) = true ∧ decide (k3 = Cm.bt c) = true ∧ True ∧ decide (k3 =
  Cm.bt c) = true ∧ decide (k3 = Cm.bt c) = true ∧ decide (k3 = Cm.bt c) = true ∧ decide (k4 = Cm.sq c) = false ∧ decide (k4 = Cm.sq c) = false ∧ decide (k4 = Cm.sq c) = false
  ∧ decide (k4 = Cm.sq c) = false ∧ decide (k4 = Cm.sq c) = false ∧ decide (k4 = Cm.sq c) = false ∧ Lf) := by unfold VD VQ; kernel_rfl
theorem sc5_vq (L : Nat) (f : Nat → Int) (B : Bool) (k1 : Int) (k2 : Int) (k3 : Int) (k4 : Int) (k5 : Int) (k6 : Int) (k7 : Int) (k8 : Int) (k9 : Int) (c : Cm) (h : B = true)
  (h1 : decide (k1 = c.k) = true) (h2 : decide (k2 = c.sv) = true) (h3 : decide (k3 = c.bt) = true) (h4 : decide (k4 = c.sq) = true) (h5 : decide (k5 = c.gn) = false) : VD
  Try.prog 22 [.agg [.i .i64 k1, .i .i64 k2, .i .i64 k3, .i .i64 k4, .i .i64 k5, .i .i64 k6, .i .i64 k7, .i .i64 k8, isv L f, .i .i64 k9], cmV c] [] (Orc.cal [] (.b B) []
  (Orc.f (Orc.t (Orc.t (Orc.t (Orc.t (Orc.t (Orc.t (Orc.t (Orc.t (Orc.t (Orc.t (Orc.t (Orc.t (Orc.t (Orc.t (Orc.t (Orc.t (Orc.t (Orc.t (Orc.t (Orc.t (Orc.t (Orc.t (Orc.t (Orc.t
  (Orc.f (Orc.f (Orc.f (Orc.f (Orc.f (Orc.f (oc 18 Orc.z))))))))))))))))))))))))))))))))) (.b false) [] [] 2 (fun Lf => True ∧ True ∧ Con Try.prog 42 [isv L f, isv (Cm.mn c)
  (Cm.mf c)] [] (.b B) [] ∧ True ∧ (!B) = false ∧ True ∧ True ∧ decide (k1 = Cm.k c) = true ∧ True ∧ decide (k1 = Cm.k c) = true ∧ decide (k1 = Cm.k c) = true ∧ True ∧ decide
  (k1 = Cm.k c) = true ∧ decide (k1 = Cm.k c) = true ∧ decide (k1 = Cm.k c) = true ∧ decide (k2 = Cm.sv c) = true ∧ True ∧ decide (k2 = Cm.sv c) = true ∧ decide (k2 = Cm.sv c)
  = true ∧ True ∧ decide (k2 = Cm.sv c) = true ∧ decide (k2 = Cm.sv c) = true ∧ decide (k2 = Cm.sv c) = true ∧ decide (k3 = Cm.bt c) = true ∧ True ∧ decide (k3 = Cm.bt c) =
  true ∧ decide (k3 = Cm.bt c) = true ∧ True ∧ decide (k3 = Cm.bt c) = true ∧ decide (k3 = Cm.bt c) = true ∧ decide (k3 = Cm.bt c) = true ∧ decide (k4 = Cm.sq c) = true ∧ True
  ∧ decide (k4 = Cm.sq c) = true ∧ decide (k4 = Cm.sq c) = true ∧ True ∧ decide (k4 = Cm.sq c) = true ∧ decide (k4 = Cm.sq c) = true ∧ decide (k4 = Cm.sq c) = true ∧ decide (k5
  = Cm.gn c) = false ∧ decide (k5 = Cm.gn c) = false ∧ decide (k5 = Cm.gn c) = false ∧ decide (k5 = Cm.gn c) = false ∧ decide (k5 = Cm.gn c) = false ∧ decide (k5 = Cm.gn c) =
  false ∧ Lf) := by unfold VD VQ; kernel_rfl
theorem sc6_vq (L : Nat) (f : Nat → Int) (B : Bool) (k1 : Int) (k2 : Int) (k3 : Int) (k4 : Int) (k5 : Int) (k6 : Int) (k7 : Int) (k8 : Int) (k9 : Int) (c : Cm) (h : B = true)
  (h1 : decide (k1 = c.k) = true) (h2 : decide (k2 = c.sv) = true) (h3 : decide (k3 = c.bt) = true) (h4 : decide (k4 = c.sq) = true) (h5 : decide (k5 = c.gn) = true) (h6 :
  decide (k6 = c.lk) = false) : VD Try.prog 22 [.agg [.i .i64 k1, .i .i64 k2, .i .i64 k3, .i .i64 k4, .i .i64 k5, .i .i64 k6, .i .i64 k7, .i .i64 k8, isv L f, .i .i64 k9], cmV
  c] [] (Orc.cal [] (.b B) [] (Orc.f (Orc.t (Orc.t (Orc.t (Orc.t (Orc.t (Orc.t (Orc.t (Orc.t (Orc.t (Orc.t (Orc.t (Orc.t (Orc.t (Orc.t (Orc.t (Orc.t (Orc.t (Orc.t (Orc.t (Orc.t
  (Orc.t (Orc.t (Orc.t (Orc.t (Orc.t (Orc.t (Orc.t (Orc.t (Orc.t (Orc.t (Orc.f (Orc.f (Orc.f (Orc.f (Orc.f (Orc.f (oc 12 Orc.z))))))))))))))))))))))))))))))))))))))) (.b false)
  [] [] 2 (fun Lf => True ∧ True ∧ Con Try.prog 42 [isv L f, isv (Cm.mn c) (Cm.mf c)] [] (.b B) [] ∧ True ∧ (!B) = false ∧ True ∧ True ∧ decide (k1 = Cm.k c) = true ∧ True ∧
  decide (k1 = Cm.k c) = true ∧ decide (k1 = Cm.k c) = true ∧ True ∧ decide (k1 = Cm.k c) = true ∧ decide (k1 = Cm.k c) = true ∧ decide (k1 = Cm.k c) = true ∧ decide (k2 =
  Cm.sv c) = true ∧ True ∧ decide (k2 = Cm.sv c) = true ∧ decide (k2 = Cm.sv c) = true ∧ True ∧ decide (k2 = Cm.sv c) = true ∧ decide (k2 = Cm.sv c) = true ∧ decide (k2 = Cm.sv
  c) = true ∧ decide (k3 = Cm.bt c) = true ∧ True ∧ decide (k3 = Cm.bt c) = true ∧ decide (k3 = Cm.bt c) = true ∧ True ∧ decide (k3 = Cm.bt c) = true ∧ decide (k3 = Cm.bt c) =
  true ∧ decide (k3 = Cm.bt c) = true ∧ decide (k4 = Cm.sq c) = true ∧ True ∧ decide (k4 = Cm.sq c) = true ∧ decide (k4 = Cm.sq c) = true ∧ True ∧ decide (k4 = Cm.sq c) = true
  ∧ decide (k4 = Cm.sq c) = true ∧ decide (k4 = Cm.sq c) = true ∧ decide (k5 = Cm.gn c) = true ∧ True ∧ decide (k5 = Cm.gn c) = true ∧ decide (k5 = Cm.gn c) = true ∧ True ∧
  decide (k5 = Cm.gn c) = true ∧ decide (k5 = Cm.gn c) = true ∧ decide (k5 = Cm.gn c) = true ∧ decide (k6 = Cm.lk c) = false ∧ decide (k6 = Cm.lk c) = false ∧ decide (k6 =
  Cm.lk c) = false ∧ decide (k6 = Cm.lk c) = false ∧ decide (k6 = Cm.lk c) = false ∧ decide (k6 = Cm.lk c) = false ∧ Lf) := by unfold VD VQ; kernel_rfl
theorem sc7_vq (L : Nat) (f : Nat → Int) (B : Bool) (k1 : Int) (k2 : Int) (k3 : Int) (k4 : Int) (k5 : Int) (k6 : Int) (k7 : Int) (k8 : Int) (k9 : Int) (c : Cm) (h : B = true)
  (h1 : decide (k1 = c.k) = true) (h2 : decide (k2 = c.sv) = true) (h3 : decide (k3 = c.bt) = true) (h4 : decide (k4 = c.sq) = true) (h5 : decide (k5 = c.gn) = true) (h6 :
  decide (k6 = c.lk) = true) (h7 : decide (k7 = c.md) = false) : VD Try.prog 22 [.agg [.i .i64 k1, .i .i64 k2, .i .i64 k3, .i .i64 k4, .i .i64 k5, .i .i64 k6, .i .i64 k7, .i
  .i64 k8, isv L f, .i .i64 k9], cmV c] [] (Orc.cal [] (.b B) [] (Orc.f (Orc.t (Orc.t (Orc.t (Orc.t (Orc.t (Orc.t (Orc.t (Orc.t (Orc.t (Orc.t (Orc.t (Orc.t (Orc.t (Orc.t (Orc.t
  (Orc.t (Orc.t (Orc.t (Orc.t (Orc.t (Orc.t (Orc.t (Orc.t (Orc.t (Orc.t (Orc.t (Orc.t (Orc.t (Orc.t (Orc.t (Orc.t (Orc.t (Orc.t (Orc.t (Orc.t (Orc.t (Orc.f (Orc.f (Orc.f (Orc.f
  (Orc.f (Orc.f (oc 6 Orc.z))))))))))))))))))))))))))))))))))))))))))))) (.b false) [] [] 2 (fun Lf => True ∧ True ∧ Con Try.prog 42 [isv L f, isv (Cm.mn c) (Cm.mf c)] [] (.b
  B) [] ∧ True ∧ (!B) = false ∧ True ∧ True ∧ decide (k1 = Cm.k c) = true ∧ True ∧ decide (k1 = Cm.k c) = true ∧ decide (k1 = Cm.k c) = true ∧ True ∧ decide (k1 = Cm.k c) =
  true ∧ decide (k1 = Cm.k c) = true ∧ decide (k1 = Cm.k c) = true ∧ decide (k2 = Cm.sv c) = true ∧ True ∧ decide (k2 = Cm.sv c) = true ∧ decide (k2 = Cm.sv c) = true ∧ True ∧
  decide (k2 = Cm.sv c) = true ∧ decide (k2 = Cm.sv c) = true ∧ decide (k2 = Cm.sv c) = true ∧ decide (k3 = Cm.bt c) = true ∧ True ∧ decide (k3 = Cm.bt c) = true ∧ decide (k3 =
  Cm.bt c) = true ∧ True ∧ decide (k3 = Cm.bt c) = true ∧ decide (k3 = Cm.bt c) = true ∧ decide (k3 = Cm.bt c) = true ∧ decide (k4 = Cm.sq c) = true ∧ True ∧ decide (k4 = Cm.sq
  c) = true ∧ decide (k4 = Cm.sq c) = true ∧ True ∧ decide (k4 = Cm.sq c) = true ∧ decide (k4 = Cm.sq c) = true ∧ decide (k4 = Cm.sq c) = true ∧ decide (k5 = Cm.gn c) = true ∧
  True ∧ decide (k5 = Cm.gn c) = true ∧ decide (k5 = Cm.gn c) = true ∧ True ∧ decide (k5 = Cm.gn c) = true ∧ decide (k5 = Cm.gn c) = true ∧ decide (k5 = Cm.gn c) = true ∧
  decide (k6 = Cm.lk c) = true ∧ True ∧ decide (k6 = Cm.lk c) = true ∧ decide (k6 = Cm.lk c) = true ∧ True ∧ decide (k6 = Cm.lk c) = true ∧ decide (k6 = Cm.lk c) = true ∧
  decide (k6 = Cm.lk c) = true ∧ decide (k7 = Cm.md c) = false ∧ decide (k7 = Cm.md c) = false ∧ decide (k7 = Cm.md c) = false ∧ decide (k7 = Cm.md c) = false ∧ decide (k7 =
  Cm.md c) = false ∧ decide (k7 = Cm.md c) = false ∧ Lf) := by unfold VD VQ; kernel_rfl
theorem sc8_vq (L : Nat) (f : Nat → Int) (B : Bool) (k1 : Int) (k2 : Int) (k3 : Int) (k4 : Int) (k5 : Int) (k6 : Int) (k7 : Int) (k8 : Int) (k9 : Int) (c : Cm) (h : B = true)
  (h1 : decide (k1 = c.k) = true) (h2 : decide (k2 = c.sv) = true) (h3 : decide (k3 = c.bt) = true) (h4 : decide (k4 = c.sq) = true) (h5 : decide (k5 = c.gn) = true) (h6 :
  decide (k6 = c.lk) = true) (h7 : decide (k7 = c.md) = true) (h8 : decide (k8 = c.ot) = false) : VD Try.prog 22 [.agg [.i .i64 k1, .i .i64 k2, .i .i64 k3, .i .i64 k4, .i .i64
  k5, .i .i64 k6, .i .i64 k7, .i .i64 k8, isv L f, .i .i64 k9], cmV c] [] (Orc.cal [] (.b B) [] (Orc.f (Orc.t (Orc.t (Orc.t (Orc.t (Orc.t (Orc.t (Orc.t (Orc.t (Orc.t (Orc.t
  (Orc.t (Orc.t (Orc.t (Orc.t (Orc.t (Orc.t (Orc.t (Orc.t (Orc.t (Orc.t (Orc.t (Orc.t (Orc.t (Orc.t (Orc.t (Orc.t (Orc.t (Orc.t (Orc.t (Orc.t (Orc.t (Orc.t (Orc.t (Orc.t (Orc.t
  (Orc.t (Orc.t (Orc.t (Orc.t (Orc.t (Orc.t (Orc.t (Orc.f (Orc.f (Orc.f (Orc.f (Orc.f (Orc.f Orc.z)))))))))))))))))))))))))))))))))))))))))))))))))) (.b false) [] [] 2 (fun Lf
  => True ∧ True ∧ Con Try.prog 42 [isv L f, isv (Cm.mn c) (Cm.mf c)] [] (.b B) [] ∧ True ∧ (!B) = false ∧ True ∧ True ∧ decide (k1 = Cm.k c) = true ∧ True ∧ decide (k1 = Cm.k
  c) = true ∧ decide (k1 = Cm.k c) = true ∧ True ∧ decide (k1 = Cm.k c) = true ∧ decide (k1 = Cm.k c) = true ∧ decide (k1 = Cm.k c) = true ∧ decide (k2 = Cm.sv c) = true ∧ True
  ∧ decide (k2 = Cm.sv c) = true ∧ decide (k2 = Cm.sv c) = true ∧ True ∧ decide (k2 = Cm.sv c) = true ∧ decide (k2 = Cm.sv c) = true ∧ decide (k2 = Cm.sv c) = true ∧ decide (k3
  = Cm.bt c) = true ∧ True ∧ decide (k3 = Cm.bt c) = true ∧ decide (k3 = Cm.bt c) = true ∧ True ∧ decide (k3 = Cm.bt c) = true ∧ decide (k3 = Cm.bt c) = true ∧ decide (k3 =
  Cm.bt c) = true ∧ decide (k4 = Cm.sq c) = true ∧ True ∧ decide (k4 = Cm.sq c) = true ∧ decide (k4 = Cm.sq c) = true ∧ True ∧ decide (k4 = Cm.sq c) = true ∧ decide (k4 = Cm.sq
  c) = true ∧ decide (k4 = Cm.sq c) = true ∧ decide (k5 = Cm.gn c) = true ∧ True ∧ decide (k5 = Cm.gn c) = true ∧ decide (k5 = Cm.gn c) = true ∧ True ∧ decide (k5 = Cm.gn c) =
  true ∧ decide (k5 = Cm.gn c) = true ∧ decide (k5 = Cm.gn c) = true ∧ decide (k6 = Cm.lk c) = true ∧ True ∧ decide (k6 = Cm.lk c) = true ∧ decide (k6 = Cm.lk c) = true ∧ True
  ∧ decide (k6 = Cm.lk c) = true ∧ decide (k6 = Cm.lk c) = true ∧ decide (k6 = Cm.lk c) = true ∧ decide (k7 = Cm.md c) = true ∧ True ∧ decide (k7 = Cm.md c) = true ∧ decide (k7
  = Cm.md c) = true ∧ True ∧ decide (k7 = Cm.md c) = true ∧ decide (k7 = Cm.md c) = true ∧ decide (k7 = Cm.md c) = true ∧ decide (k8 = Cm.ot c) = false ∧ decide (k8 = Cm.ot c)
  = false ∧ decide (k8 = Cm.ot c) = false ∧ decide (k8 = Cm.ot c) = false ∧ decide (k8 = Cm.ot c) = false ∧ decide (k8 = Cm.ot c) = false ∧ Lf) := by unfold VD VQ; kernel_rfl
theorem sc9_vq (L : Nat) (f : Nat → Int) (B : Bool) (k1 : Int) (k2 : Int) (k3 : Int) (k4 : Int) (k5 : Int) (k6 : Int) (k7 : Int) (k8 : Int) (k9 : Int) (c : Cm) (h : B = true)
  (h1 : decide (k1 = c.k) = true) (h2 : decide (k2 = c.sv) = true) (h3 : decide (k3 = c.bt) = true) (h4 : decide (k4 = c.sq) = true) (h5 : decide (k5 = c.gn) = true) (h6 :
  decide (k6 = c.lk) = true) (h7 : decide (k7 = c.md) = true) (h8 : decide (k8 = c.ot) = true) (h9 : decide (k9 = c.d) = false) : VD Try.prog 22 [.agg [.i .i64 k1, .i .i64 k2,
  .i .i64 k3, .i .i64 k4, .i .i64 k5, .i .i64 k6, .i .i64 k7, .i .i64 k8, isv L f, .i .i64 k9], cmV c] [] (Orc.cal [] (.b B) [] (Orc.f (Orc.t (Orc.t (Orc.t (Orc.t (Orc.t (Orc.t
  (Orc.t (Orc.t (Orc.t (Orc.t (Orc.t (Orc.t (Orc.t (Orc.t (Orc.t (Orc.t (Orc.t (Orc.t (Orc.t (Orc.t (Orc.t (Orc.t (Orc.t (Orc.t (Orc.t (Orc.t (Orc.t (Orc.t (Orc.t (Orc.t (Orc.t
  (Orc.t (Orc.t (Orc.t (Orc.t (Orc.t (Orc.t (Orc.t (Orc.t (Orc.t (Orc.t (Orc.t (Orc.t (Orc.t (Orc.t (Orc.t (Orc.t (Orc.t Orc.z))))))))))))))))))))))))))))))))))))))))))))))))))
  (.b (decide (k9 = Cm.d c))) [] [] 2 (fun Lf => True ∧ True ∧ Con Try.prog 42 [isv L f, isv (Cm.mn c) (Cm.mf c)] [] (.b B) [] ∧ True ∧ (!B) = false ∧ True ∧ True ∧ decide (k1
  = Cm.k c) = true ∧ True ∧ decide (k1 = Cm.k c) = true ∧ decide (k1 = Cm.k c) = true ∧ True ∧ decide (k1 = Cm.k c) = true ∧ decide (k1 = Cm.k c) = true ∧ decide (k1 = Cm.k c)
  = true ∧ decide (k2 = Cm.sv c) = true ∧ True ∧ decide (k2 = Cm.sv c) = true ∧ decide (k2 = Cm.sv c) = true ∧ True ∧ decide (k2 = Cm.sv c) = true ∧ decide (k2 = Cm.sv c) =
  true ∧ decide (k2 = Cm.sv c) = true ∧ decide (k3 = Cm.bt c) = true ∧ True ∧ decide (k3 = Cm.bt c) = true ∧ decide (k3 = Cm.bt c) = true ∧ True ∧ decide (k3 = Cm.bt c) = true
  ∧ decide (k3 = Cm.bt c) = true ∧ decide (k3 = Cm.bt c) = true ∧ decide (k4 = Cm.sq c) = true ∧ True ∧ decide (k4 = Cm.sq c) = true ∧ decide (k4 = Cm.sq c) = true ∧ True ∧
  decide (k4 = Cm.sq c) = true ∧ decide (k4 = Cm.sq c) = true ∧ decide (k4 = Cm.sq c) = true ∧ decide (k5 = Cm.gn c) = true ∧ True ∧ decide (k5 = Cm.gn c) = true ∧ decide (k5 =
  Cm.gn c) = true ∧ True ∧ decide (k5 = Cm.gn c) = true ∧ decide (k5 = Cm.gn c) = true ∧ decide (k5 = Cm.gn c) = true ∧ decide (k6 = Cm.lk c) = true ∧ True ∧ decide (k6 = Cm.lk
  c) = true ∧ decide (k6 = Cm.lk c) = true ∧ True ∧ decide (k6 = Cm.lk c) = true ∧ decide (k6 = Cm.lk c) = true ∧ decide (k6 = Cm.lk c) = true ∧ decide (k7 = Cm.md c) = true ∧
  True ∧ decide (k7 = Cm.md c) = true ∧ decide (k7 = Cm.md c) = true ∧ True ∧ decide (k7 = Cm.md c) = true ∧ decide (k7 = Cm.md c) = true ∧ decide (k7 = Cm.md c) = true ∧
  decide (k8 = Cm.ot c) = true ∧ True ∧ decide (k8 = Cm.ot c) = true ∧ decide (k8 = Cm.ot c) = true ∧ True ∧ decide (k8 = Cm.ot c) = true ∧ decide (k8 = Cm.ot c) = true ∧
  decide (k8 = Cm.ot c) = true ∧ Lf) := by unfold VD VQ; kernel_rfl
theorem sc10_vq (L : Nat) (f : Nat → Int) (B : Bool) (k1 : Int) (k2 : Int) (k3 : Int) (k4 : Int) (k5 : Int) (k6 : Int) (k7 : Int) (k8 : Int) (k9 : Int) (c : Cm) (h : B = true)
  (h1 : decide (k1 = c.k) = true) (h2 : decide (k2 = c.sv) = true) (h3 : decide (k3 = c.bt) = true) (h4 : decide (k4 = c.sq) = true) (h5 : decide (k5 = c.gn) = true) (h6 :
  decide (k6 = c.lk) = true) (h7 : decide (k7 = c.md) = true) (h8 : decide (k8 = c.ot) = true) (h9 : decide (k9 = c.d) = true) : VD Try.prog 22 [.agg [.i .i64 k1, .i .i64 k2,
  .i .i64 k3, .i .i64 k4, .i .i64 k5, .i .i64 k6, .i .i64 k7, .i .i64 k8, isv L f, .i .i64 k9], cmV c] [] (Orc.cal [] (.b B) [] (Orc.f (Orc.t (Orc.t (Orc.t (Orc.t (Orc.t (Orc.t
  (Orc.t (Orc.t (Orc.t (Orc.t (Orc.t (Orc.t (Orc.t (Orc.t (Orc.t (Orc.t (Orc.t (Orc.t (Orc.t (Orc.t (Orc.t (Orc.t (Orc.t (Orc.t (Orc.t (Orc.t (Orc.t (Orc.t (Orc.t (Orc.t (Orc.t
  (Orc.t (Orc.t (Orc.t (Orc.t (Orc.t (Orc.t (Orc.t (Orc.t (Orc.t (Orc.t (Orc.t (Orc.t (Orc.t (Orc.t (Orc.t (Orc.t (Orc.t Orc.z))))))))))))))))))))))))))))))))))))))))))))))))))
  (.b (decide (k9 = Cm.d c))) [] [] 2 (fun Lf => True ∧ True ∧ Con Try.prog 42 [isv L f, isv (Cm.mn c) (Cm.mf c)] [] (.b B) [] ∧ True ∧ (!B) = false ∧ True ∧ True ∧ decide (k1
  = Cm.k c) = true ∧ True ∧ decide (k1 = Cm.k c) = true ∧ decide (k1 = Cm.k c) = true ∧ True ∧ decide (k1 = Cm.k c) = true ∧ decide (k1 = Cm.k c) = true ∧ decide (k1 = Cm.k c)
  = true ∧ decide (k2 = Cm.sv c) = true ∧ True ∧ decide (k2 = Cm.sv c) = true ∧ decide (k2 = Cm.sv c) = true ∧ True ∧ decide (k2 = Cm.sv c) = true ∧ decide (k2 = Cm.sv c) =
  true ∧ decide (k2 = Cm.sv c) = true ∧ decide (k3 = Cm.bt c) = true ∧ True ∧ decide (k3 = Cm.bt c) = true ∧ decide (k3 = Cm.bt c) = true ∧ True ∧ decide (k3 = Cm.bt c) = true
  ∧ decide (k3 = Cm.bt c) = true ∧ decide (k3 = Cm.bt c) = true ∧ decide (k4 = Cm.sq c) = true ∧ True ∧ decide (k4 = Cm.sq c) = true ∧ decide (k4 = Cm.sq c) = true ∧ True ∧
  decide (k4 = Cm.sq c) = true ∧ decide (k4 = Cm.sq c) = true ∧ decide (k4 = Cm.sq c) = true ∧ decide (k5 = Cm.gn c) = true ∧ True ∧ decide (k5 = Cm.gn c) = true ∧ decide (k5 =
  Cm.gn c) = true ∧ True ∧ decide (k5 = Cm.gn c) = true ∧ decide (k5 = Cm.gn c) = true ∧ decide (k5 = Cm.gn c) = true ∧ decide (k6 = Cm.lk c) = true ∧ True ∧ decide (k6 = Cm.lk
  c) = true ∧ decide (k6 = Cm.lk c) = true ∧ True ∧ decide (k6 = Cm.lk c) = true ∧ decide (k6 = Cm.lk c) = true ∧ decide (k6 = Cm.lk c) = true ∧ decide (k7 = Cm.md c) = true ∧
  True ∧ decide (k7 = Cm.md c) = true ∧ decide (k7 = Cm.md c) = true ∧ True ∧ decide (k7 = Cm.md c) = true ∧ decide (k7 = Cm.md c) = true ∧ decide (k7 = Cm.md c) = true ∧
  decide (k8 = Cm.ot c) = true ∧ True ∧ decide (k8 = Cm.ot c) = true ∧ decide (k8 = Cm.ot c) = true ∧ True ∧ decide (k8 = Cm.ot c) = true ∧ decide (k8 = Cm.ot c) = true ∧
  decide (k8 = Cm.ot c) = true ∧ Lf) := by unfold VD VQ; kernel_rfl
def cm0 : Cm := ⟨0, 0, 0, 0, 0, 0, 0, 0, 0, fun _ => 0, 0⟩
def eqN (f g : Nat → Int) : Nat → Nat → Bool
  | 0, _ => true
  | m + 1, i => decide (f i = g i) && eqN f g m (i + 1)
theorem rsi_con (L M : Nat) (hL : L ≤ 1152921504606846976) (f g : Nat → Int) : Con Try.prog 42 [isv L f, isv M g] [] (.b (decide (Int.ofNat L = Int.ofNat M) && eqN f g L 0)) [] := by
  cases h : decide (Int.ofNat L = Int.ofNat M) with
  | false => rw [Bool.false_and]; exact con_d (gC_vq L M f g h) (by repeat' first | exact trivial | assumption | exact boT h | exact rfl | apply And.intro)
  | true =>
    rw [Bool.true_and]
    have hLM : L = M := Int.ofNat.inj (of_decide_eq_true h)
    subst hLM
    have key : ∀ (x : XO) (l' : List (Nat × AV)) (b : Bool), (b = false ∧ x = .ret ∧ l' = [(4, .b false)]) ∨ (b = true ∧ x = .exit 0 ∧ l' = []) → eqN f g L 0 = b →
        LDoes Try.prog (loopAt Try.prog 42 0) 26 0 (mkT [(0, isv L f), (1, isv L g), (5, .i .i64 0)]) [] x (mkT l') [] := by
      intro x l' b hx h
      refine loop_q (fun i : Nat => ([(0, isv L f), (1, isv L g), (5, .i .i64 (Int.ofNat i))], [])) (fun i => L - i) (fun i => i ≤ L ∧ eqN f g (L - i) i = b) (fun _ => Nat.le_refl _) ?_ 0 ⟨Nat.zero_le _, h⟩
      rintro i ⟨hi, hp⟩
      rcases Nat.lt_or_ge i L with hlt | q
      · have h0 : decide (Int.ofNat i < Int.ofNat L) = true := decide_eq_true (by simp; omega)
        have bi : (0 : Int) ≤ Int.ofNat i ∧ Int.ofNat i < (↑L : Int) := ⟨by simp, by simp; omega⟩
        have ri : rg (Int.ofNat i + 1) := ⟨by simp <;> omega, by simp <;> omega⟩
        rw [show L - i = (L - (i + 1)) + 1 by omega] at hp
        unfold eqN at hp
        cases h1 : decide (f i = g i) with
        | false =>
          rw [h1, Bool.false_and] at hp
          subst hp
          obtain ⟨_, rfl, rfl⟩ : (false = false ∧ x = .ret ∧ l' = [(4, .b false)]) := by rcases hx with c | c; exact c; exact absurd c.1 (by decide)
          exact rd_out (gR_lq L L f g cm0 i h0 h1) (by repeat' first | exact trivial | assumption | exact boT h1 | exact rfl | apply And.intro) rfl rfl (.refl _) (.refl _)
        | true =>
          rw [h1, Bool.true_and] at hp
          exact rd_nrm (gN_lq L L f g cm0 i h0 h1) (by repeat' first | exact trivial | assumption | exact boF h1 | exact rfl | apply And.intro) (i + 1) ⟨hlt, hp⟩ (by show L - (i + 1) < L - i; omega) rfl (.refl _) (.refl _)
      · obtain rfl : i = L := by omega
        rw [show i - i = 0 by omega] at hp
        have hb : b = true := hp.symm
        subst hb
        obtain ⟨_, rfl, rfl⟩ : (true = true ∧ x = .exit 0 ∧ l' = []) := by rcases hx with c | c; exact absurd c.1 (by decide); exact c
        exact rd_out (gE_lq i i f g i (decide_eq_false (by simp))) (by repeat' first | exact trivial | assumption | (simp; done) | exact rfl | apply And.intro) rfl rfl (.refl _) (.refl _)
    cases h2 : eqN f g L 0 with
    | true =>
      have lp := key _ _ true (.inr ⟨rfl, rfl, rfl⟩) h2
      exact con_d (gA_vq L L f g h) (by repeat' first | exact trivial | assumption | exact boF h | exact rfl | apply And.intro)
    | false =>
      have lp := key _ _ false (.inl ⟨rfl, rfl, rfl⟩) h2
      exact con_d (gB_vq L L f g h) (by repeat' first | exact trivial | assumption | exact boF h | exact rfl | apply And.intro)
theorem eqN_self (f : Nat → Int) : ∀ m i, eqN f f m i = true
  | 0, _ => rfl
  | m + 1, i => by unfold eqN; rw [eqN_self f m (i + 1), decide_eq_true rfl]; rfl
theorem rscm_con (k1 k2 k3 k4 k5 k6 k7 k8 k9 : Int) (L : Nat) (hL : L ≤ 1152921504606846976) (f : Nat → Int) (c : Cm) :
    Con Try.prog 22 [.agg [.i .i64 k1, .i .i64 k2, .i .i64 k3, .i .i64 k4, .i .i64 k5, .i .i64 k6, .i .i64 k7, .i .i64 k8, isv L f, .i .i64 k9], cmV c] [] (.b ((decide (Int.ofNat L = Int.ofNat c.mn) && eqN f c.mf L 0) && (decide (k1 = c.k) && (decide (k2 = c.sv) && (decide (k3 = c.bt) && (decide (k4 = c.sq) && (decide (k5 = c.gn) && (decide (k6 = c.lk) && (decide (k7 = c.md) && (decide (k8 = c.ot) && (decide (k9 = c.d)))))))))))) [] := by
  have mc := rsi_con L c.mn hL f c.mf
  generalize (decide (Int.ofNat L = Int.ofNat c.mn) && eqN f c.mf L 0) = B at mc ⊢
  cases B with
  | false => rw [Bool.false_and]; exact con_d (sc0_vq L f false k1 k2 k3 k4 k5 k6 k7 k8 k9 c rfl) (by repeat' first | exact trivial | assumption | exact rfl | apply And.intro)
  | true =>
    rw [Bool.true_and]
    cases h1 : decide (k1 = c.k) with
    | false => rw [Bool.false_and]; exact con_d (sc1_vq L f true k1 k2 k3 k4 k5 k6 k7 k8 k9 c rfl (by assumption)) (by repeat' first | exact trivial | assumption | exact rfl | apply And.intro)
    | true =>
      rw [Bool.true_and]
      cases h2 : decide (k2 = c.sv) with
      | false => rw [Bool.false_and]; exact con_d (sc2_vq L f true k1 k2 k3 k4 k5 k6 k7 k8 k9 c rfl (by assumption) (by assumption)) (by repeat' first | exact trivial | assumption | exact rfl | apply And.intro)
      | true =>
        rw [Bool.true_and]
        cases h3 : decide (k3 = c.bt) with
        | false => rw [Bool.false_and]; exact con_d (sc3_vq L f true k1 k2 k3 k4 k5 k6 k7 k8 k9 c rfl (by assumption) (by assumption) (by assumption)) (by repeat' first | exact trivial | assumption | exact rfl | apply And.intro)
        | true =>
          rw [Bool.true_and]
          cases h4 : decide (k4 = c.sq) with
          | false => rw [Bool.false_and]; exact con_d (sc4_vq L f true k1 k2 k3 k4 k5 k6 k7 k8 k9 c rfl (by assumption) (by assumption) (by assumption) (by assumption)) (by repeat' first | exact trivial | assumption | exact rfl | apply And.intro)
          | true =>
            rw [Bool.true_and]
            cases h5 : decide (k5 = c.gn) with
            | false => rw [Bool.false_and]; exact con_d (sc5_vq L f true k1 k2 k3 k4 k5 k6 k7 k8 k9 c rfl (by assumption) (by assumption) (by assumption) (by assumption) (by assumption)) (by repeat' first | exact trivial | assumption | exact rfl | apply And.intro)
            | true =>
              rw [Bool.true_and]
              cases h6 : decide (k6 = c.lk) with
              | false => rw [Bool.false_and]; exact con_d (sc6_vq L f true k1 k2 k3 k4 k5 k6 k7 k8 k9 c rfl (by assumption) (by assumption) (by assumption) (by assumption) (by assumption) (by assumption)) (by repeat' first | exact trivial | assumption | exact rfl | apply And.intro)
              | true =>
                rw [Bool.true_and]
                cases h7 : decide (k7 = c.md) with
                | false => rw [Bool.false_and]; exact con_d (sc7_vq L f true k1 k2 k3 k4 k5 k6 k7 k8 k9 c rfl (by assumption) (by assumption) (by assumption) (by assumption) (by assumption) (by assumption) (by assumption)) (by repeat' first | exact trivial | assumption | exact rfl | apply And.intro)
                | true =>
                  rw [Bool.true_and]
                  cases h8 : decide (k8 = c.ot) with
                  | false => rw [Bool.false_and]; exact con_d (sc8_vq L f true k1 k2 k3 k4 k5 k6 k7 k8 k9 c rfl (by assumption) (by assumption) (by assumption) (by assumption) (by assumption) (by assumption) (by assumption) (by assumption)) (by repeat' first | exact trivial | assumption | exact rfl | apply And.intro)
                  | true =>
                    rw [Bool.true_and]
                    cases h9 : decide (k9 = c.d) with
                    | false => exact (con_d (sc9_vq L f true k1 k2 k3 k4 k5 k6 k7 k8 k9 c rfl (by assumption) (by assumption) (by assumption) (by assumption) (by assumption) (by assumption) (by assumption) (by assumption) (by assumption)) (by repeat' first | exact trivial | assumption | exact rfl | apply And.intro)).post (by rw [h9]; exact .refl _) (OVL.refl _)
                    | true => exact (con_d (sc10_vq L f true k1 k2 k3 k4 k5 k6 k7 k8 k9 c rfl (by assumption) (by assumption) (by assumption) (by assumption) (by assumption) (by assumption) (by assumption) (by assumption) (by assumption)) (by repeat' first | exact trivial | assumption | exact rfl | apply And.intro)).post (by rw [h9]; exact .refl _) (OVL.refl _)
theorem mR_lq (w : Int → Int → Int → Bool) (q : Cm) (i : Nat) (h : decide (Int.ofNat i < Int.ofNat q.mn) = true) (h1 : w (q.mf i) 0 2 = false) : LD Try.prog (loopAt Try.prog
  41 0) 108 1 [(1, .p 0 0), (4, .i .i64 (Int.ofNat i))] [some (cellsO 33 (cmL q))] (Orc.t (Orc.cal [] (.b (w (Cm.mf q i) 0 2)) [] (Orc.t Orc.z))) .ret [0] [(2, .b false)] [some
  (cellsO 33 (cmL q))] 1 (fun Lf => True ∧ decide (Int.ofNat i < Int.ofNat (Cm.mn q)) = true ∧ True ∧ (0 ≤ Int.ofNat i ∧ Int.ofNat i < ↑(Cm.mn q)) ∧ True ∧ Con Try.prog 52 [.i
  .i64 (Cm.mf q i)] [] (.b (w (Cm.mf q i) 0 2)) [] ∧ True ∧ (!w (Cm.mf q i) 0 2) = true ∧ Lf) := by unfold LD LQ; kernel_rfl
theorem mN_lq (w : Int → Int → Int → Bool) (q : Cm) (i : Nat) (h : decide (Int.ofNat i < Int.ofNat q.mn) = true) (h1 : w (q.mf i) 0 2 = true) : LD Try.prog (loopAt Try.prog
  41 0) 108 1 [(1, .p 0 0), (4, .i .i64 (Int.ofNat i))] [some (cellsO 33 (cmL q))] (Orc.t (Orc.cal [] (.b (w (Cm.mf q i) 0 2)) [] (Orc.f Orc.z))) .nrm [0] [(1, .p 0 0), (4, .i
  .i64 (Int.ofNat i + 1))] [some (cellsO 33 (cmL q))] 1 (fun Lf => True ∧ decide (Int.ofNat i < Int.ofNat (Cm.mn q)) = true ∧ True ∧ (0 ≤ Int.ofNat i ∧ Int.ofNat i < ↑(Cm.mn
  q)) ∧ True ∧ Con Try.prog 52 [.i .i64 (Cm.mf q i)] [] (.b (w (Cm.mf q i) 0 2)) [] ∧ True ∧ (!w (Cm.mf q i) 0 2) = false ∧ rg (Int.ofNat i + 1) ∧ Lf)
  := by unfold LD LQ; kernel_rfl
theorem mE_lq (q : Cm) (i : Nat) (h : decide (Int.ofNat i < Int.ofNat q.mn) = false) : LD Try.prog (loopAt Try.prog 41 0) 108 1 [(1, .p 0 0), (4, .i .i64 (Int.ofNat i))]
  [some (cellsO 33 (cmL q))] (Orc.f Orc.z) (.exit 0) [0] [(1, .p 0 0)] [some (cellsO 33 (cmL q))] 1 (fun Lf => True ∧ decide (Int.ofNat i < Int.ofNat (Cm.mn q)) = false ∧ Lf)
  := by unfold LD LQ; kernel_rfl
theorem v1_vq (q : Cm) (a1 : decide (q.k < 1) = true) : VD Try.prog 41 [cmV q] [] (Orc.f (Orc.f (Orc.t (oc 15 Orc.z)))) (.b false) [] [] 1 (fun Lf => True ∧ (!decide (Cm.k q <
  1)) = false ∧ (!decide (Cm.k q < 1)) = false ∧ decide (Cm.k q < 1) = true ∧ Lf) := by unfold VD VQ; kernel_rfl
theorem v2_vq (q : Cm) (a1 : decide (q.k < 1) = false) (a2 : decide (8 < q.k) = true) : VD Try.prog 41 [cmV q] [] (Orc.t (Orc.t (Orc.f (Orc.f (Orc.f (Orc.f (Orc.f (Orc.f
  (Orc.t (oc 9 Orc.z)))))))))) (.b false) [] [] 1 (fun Lf => True ∧ (!decide (Cm.k q < 1)) = true ∧ (!decide (Cm.k q < 1)) = true ∧ decide (Cm.k q < 1) = false ∧ (!decide (8 <
  Cm.k q)) = false ∧ (!decide (8 < Cm.k q)) = false ∧ (!decide (8 < Cm.k q)) = false ∧ (!decide (8 < Cm.k q)) = false ∧ (!decide (8 < Cm.k q)) = false ∧ decide (8 < Cm.k q) =
  true ∧ Lf) := by unfold VD VQ; kernel_rfl
theorem v3_vq (B : Bool) (u : Cm) (q : Cm) (a1 : decide (q.k < 1) = false) (a2 : decide (8 < q.k) = false) (a3 : B = false) : VD Try.prog 41 [cmV q] [] (Orc.t (Orc.t (Orc.f
  (Orc.t (Orc.t (Orc.cal [] (cmV u) [] (Orc.t (Orc.t (Orc.cal [] (.b B) [] (Orc.t (Orc.f (Orc.f (Orc.f (Orc.f (Orc.t (oc 5 Orc.z)))))))))))))))) (.b false) [] [] 1 (fun Lf =>
  True ∧ (!decide (Cm.k q < 1)) = true ∧ (!decide (Cm.k q < 1)) = true ∧ decide (Cm.k q < 1) = false ∧ (!decide (8 < Cm.k q)) = true ∧ (!decide (8 < Cm.k q)) = true ∧ Con
  Try.prog 51 [cmV q] [] (cmV u) [] ∧ (!decide (8 < Cm.k q)) = true ∧ (!decide (8 < Cm.k q)) = true ∧ Con Try.prog 22 [cmV u, cmV q] [] (.b B) [] ∧ (!decide (8 < Cm.k q)) =
  true ∧ True ∧ decide (8 < Cm.k q) = false ∧ (!!B) = false ∧ (!!B) = false ∧ (!!B) = false ∧ (!B) = true ∧ Lf) := by unfold VD VQ; kernel_rfl
theorem v4_vq (B : Bool) (u : Cm) (q : Cm) (a1 : decide (q.k < 1) = false) (a2 : decide (8 < q.k) = false) (a3 : B = true) (a4 : decide (q.d < 0) = true) : VD Try.prog 41 [cmV
  q] [] (Orc.t (Orc.t (Orc.f (Orc.t (Orc.t (Orc.cal [] (cmV u) [] (Orc.t (Orc.t (Orc.cal [] (.b B) [] (Orc.t (Orc.f (Orc.t (Orc.t (Orc.t (Orc.f (Orc.f (Orc.f (Orc.f (Orc.t
  (Orc.c Orc.z)))))))))))))))))))) (.b false) [] [] 1 (fun Lf => True ∧ (!decide (Cm.k q < 1)) = true ∧ (!decide (Cm.k q < 1)) = true ∧ decide (Cm.k q < 1) = false ∧ (!decide
  (8 < Cm.k q)) = true ∧ (!decide (8 < Cm.k q)) = true ∧ Con Try.prog 51 [cmV q] [] (cmV u) [] ∧ (!decide (8 < Cm.k q)) = true ∧ (!decide (8 < Cm.k q)) = true ∧ Con Try.prog
  22 [cmV u, cmV q] [] (.b B) [] ∧ (!decide (8 < Cm.k q)) = true ∧ True ∧ decide (8 < Cm.k q) = false ∧ (!!B) = true ∧ True ∧ (!!B) = true ∧ (!!B) = true ∧ (!B) = false ∧
  (!decide (Cm.d q < 0)) = false ∧ (!decide (Cm.d q < 0)) = false ∧ (!decide (Cm.d q < 0)) = false ∧ decide (Cm.d q < 0) = true ∧ Lf) := by unfold VD VQ; kernel_rfl
theorem v5_vq (B : Bool) (u : Cm) (q : Cm) (a1 : decide (q.k < 1) = false) (a2 : decide (8 < q.k) = false) (a3 : B = true) (a4 : decide (q.d < 0) = false) (a5 : decide (1048576
  < q.d) = true) : VD Try.prog 41 [cmV q] [] (Orc.t (Orc.t (Orc.f (Orc.t (Orc.t (Orc.cal [] (cmV u) [] (Orc.t (Orc.t (Orc.cal [] (.b B) [] (Orc.t (Orc.f (Orc.t (Orc.t (Orc.t
  (Orc.f (Orc.t (Orc.t (Orc.t (Orc.f (Orc.t Orc.z)))))))))))))))))))) (.b false) [] [] 1 (fun Lf => True ∧ (!decide (Cm.k q < 1)) = true ∧ (!decide (Cm.k q < 1)) = true ∧
  decide (Cm.k q < 1) = false ∧ (!decide (8 < Cm.k q)) = true ∧ (!decide (8 < Cm.k q)) = true ∧ Con Try.prog 51 [cmV q] [] (cmV u) [] ∧ (!decide (8 < Cm.k q)) = true ∧
  (!decide (8 < Cm.k q)) = true ∧ Con Try.prog 22 [cmV u, cmV q] [] (.b B) [] ∧ (!decide (8 < Cm.k q)) = true ∧ True ∧ decide (8 < Cm.k q) = false ∧ (!!B) = true ∧ True ∧
  (!!B) = true ∧ (!!B) = true ∧ (!B) = false ∧ (!decide (Cm.d q < 0)) = true ∧ True ∧ (!decide (Cm.d q < 0)) = true ∧ (!decide (Cm.d q < 0)) = true ∧ decide (Cm.d q < 0) =
  false ∧ decide (1048576 < Cm.d q) = true ∧ Lf) := by unfold VD VQ; kernel_rfl
theorem v6_vq (B : Bool) (u : Cm) (q : Cm) (a1 : decide (q.k < 1) = false) (a2 : decide (8 < q.k) = false) (a3 : B = true) (a4 : decide (q.d < 0) = false) (a5 : decide (1048576
  < q.d) = false) (a6 : decide (q.k = 8) = true) : VD Try.prog 41 [cmV q] [] (Orc.t (Orc.t (Orc.f (Orc.t (Orc.t (Orc.cal [] (cmV u) [] (Orc.t (Orc.t (Orc.cal [] (.b B) []
  (Orc.t (Orc.f (Orc.t (Orc.t (Orc.t (Orc.f (Orc.t (Orc.t (Orc.t (Orc.f (Orc.f (Orc.t Orc.z))))))))))))))))))))) (.b (decide (1 ≤ Cm.d q))) [] [] 1 (fun Lf => True ∧ (!decide
  (Cm.k q < 1)) = true ∧ (!decide (Cm.k q < 1)) = true ∧ decide (Cm.k q < 1) = false ∧ (!decide (8 < Cm.k q)) = true ∧ (!decide (8 < Cm.k q)) = true ∧ Con Try.prog 51 [cmV q]
  [] (cmV u) [] ∧ (!decide (8 < Cm.k q)) = true ∧ (!decide (8 < Cm.k q)) = true ∧ Con Try.prog 22 [cmV u, cmV q] [] (.b B) [] ∧ (!decide (8 < Cm.k q)) = true ∧ True ∧ decide
  (8 < Cm.k q) = false ∧ (!!B) = true ∧ True ∧ (!!B) = true ∧ (!!B) = true ∧ (!B) = false ∧ (!decide (Cm.d q < 0)) = true ∧ True ∧ (!decide (Cm.d q < 0)) = true ∧ (!decide
  (Cm.d q < 0)) = true ∧ decide (Cm.d q < 0) = false ∧ decide (1048576 < Cm.d q) = false ∧ decide (Cm.k q = 8) = true ∧ True ∧ Lf) := by unfold VD VQ; kernel_rfl
theorem v7_vq (B : Bool) (u : Cm) (w : Int → Int → Int → Bool) (q : Cm) (a1 : decide (q.k < 1) = false) (a2 : decide (8 < q.k) = false) (a3 : B = true) (a4 : decide (q.d < 0) =
  false) (a5 : decide (1048576 < q.d) = false) (a6 : decide (q.k = 8) = false) (a7 : w q.sv 0 2 = false) : VD Try.prog 41 [cmV q] [] (Orc.t (Orc.t (Orc.f (Orc.t (Orc.t
  (Orc.cal [] (cmV u) [] (Orc.t (Orc.t (Orc.cal [] (.b B) [] (Orc.t (Orc.f (Orc.t (Orc.t (Orc.t (Orc.f (Orc.t (Orc.t (Orc.t (Orc.f (Orc.f (Orc.f (Orc.cal [] (.b (w (Cm.sv q) 0
  2)) [] (Orc.f (Orc.f (Orc.f (Orc.f (Orc.t (oc 11 Orc.z)))))))))))))))))))))))))))) (.b false) [] [] 1 (fun Lf => True ∧ (!decide (Cm.k q < 1)) = true ∧ (!decide (Cm.k q < 1))
  = true ∧ decide (Cm.k q < 1) = false ∧ (!decide (8 < Cm.k q)) = true ∧ (!decide (8 < Cm.k q)) = true ∧ Con Try.prog 51 [cmV q] [] (cmV u) [] ∧ (!decide (8 < Cm.k q)) = true
  ∧ (!decide (8 < Cm.k q)) = true ∧ Con Try.prog 22 [cmV u, cmV q] [] (.b B) [] ∧ (!decide (8 < Cm.k q)) = true ∧ True ∧ decide (8 < Cm.k q) = false ∧ (!!B) = true ∧ True ∧
  (!!B) = true ∧ (!!B) = true ∧ (!B) = false ∧ (!decide (Cm.d q < 0)) = true ∧ True ∧ (!decide (Cm.d q < 0)) = true ∧ (!decide (Cm.d q < 0)) = true ∧ decide (Cm.d q < 0) =
  false ∧ decide (1048576 < Cm.d q) = false ∧ decide (Cm.k q = 8) = false ∧ True ∧ Con Try.prog 52 [.i .i64 (Cm.sv q)] [] (.b (w (Cm.sv q) 0 2)) [] ∧ True ∧ (!!w (Cm.sv q) 0
  2) = false ∧ (!!w (Cm.sv q) 0 2) = false ∧ (!!w (Cm.sv q) 0 2) = false ∧ (!!w (Cm.sv q) 0 2) = false ∧ (!w (Cm.sv q) 0 2) = true ∧ Lf) := by unfold VD VQ; kernel_rfl
theorem v8_vq (B : Bool) (u : Cm) (w : Int → Int → Int → Bool) (q : Cm) (a1 : decide (q.k < 1) = false) (a2 : decide (8 < q.k) = false) (a3 : B = true) (a4 : decide (q.d < 0) =
  false) (a5 : decide (1048576 < q.d) = false) (a6 : decide (q.k = 8) = false) (a7 : w q.sv 0 2 = true) (a8 : w q.bt 1 1099511627776 = false) : VD Try.prog 41 [cmV q] []
  (Orc.t (Orc.t (Orc.f (Orc.t (Orc.t (Orc.cal [] (cmV u) [] (Orc.t (Orc.t (Orc.cal [] (.b B) [] (Orc.t (Orc.f (Orc.t (Orc.t (Orc.t (Orc.f (Orc.t (Orc.t (Orc.t (Orc.f (Orc.f
  (Orc.f (Orc.cal [] (.b (w (Cm.sv q) 0 2)) [] (Orc.t (Orc.t (Orc.t (Orc.cal [] (.b (w (Cm.bt q) 1 1099511627776)) [] (Orc.t (Orc.f (Orc.f (Orc.f (Orc.f (Orc.f (Orc.t (oc 6
  Orc.z)))))))))))))))))))))))))))))))))) (.b false) [] [] 1 (fun Lf => True ∧ (!decide (Cm.k q < 1)) = true ∧ (!decide (Cm.k q < 1)) = true ∧ decide (Cm.k q < 1) = false ∧
  (!decide (8 < Cm.k q)) = true ∧ (!decide (8 < Cm.k q)) = true ∧ Con Try.prog 51 [cmV q] [] (cmV u) [] ∧ (!decide (8 < Cm.k q)) = true ∧ (!decide (8 < Cm.k q)) = true ∧ Con
  Try.prog 22 [cmV u, cmV q] [] (.b B) [] ∧ (!decide (8 < Cm.k q)) = true ∧ True ∧ decide (8 < Cm.k q) = false ∧ (!!B) = true ∧ True ∧ (!!B) = true ∧ (!!B) = true ∧ (!B) =
  false ∧ (!decide (Cm.d q < 0)) = true ∧ True ∧ (!decide (Cm.d q < 0)) = true ∧ (!decide (Cm.d q < 0)) = true ∧ decide (Cm.d q < 0) = false ∧ decide (1048576 < Cm.d q) = false
  ∧ decide (Cm.k q = 8) = false ∧ True ∧ Con Try.prog 52 [.i .i64 (Cm.sv q)] [] (.b (w (Cm.sv q) 0 2)) [] ∧ True ∧ (!!w (Cm.sv q) 0 2) = true ∧ True ∧ (!!w (Cm.sv q) 0 2) =
  true ∧ (!!w (Cm.sv q) 0 2) = true ∧ Con Try.prog 53 [.i .i64 (Cm.bt q), .i .i64 1] [] (.b (w (Cm.bt q) 1 1099511627776)) [] ∧ (!!w (Cm.sv q) 0 2) = true ∧ True ∧ (!w (Cm.sv
  q) 0 2) = false ∧ (!!w (Cm.bt q) 1 1099511627776) = false ∧ (!!w (Cm.bt q) 1 1099511627776) = false ∧ (!!w (Cm.bt q) 1 1099511627776) = false ∧ (!!w (Cm.bt q) 1
  1099511627776) = false ∧ (!w (Cm.bt q) 1 1099511627776) = true ∧ Lf) := by unfold VD VQ; kernel_rfl
theorem v9_vq (B : Bool) (u : Cm) (w : Int → Int → Int → Bool) (q : Cm) (a1 : decide (q.k < 1) = false) (a2 : decide (8 < q.k) = false) (a3 : B = true) (a4 : decide (q.d < 0) =
  false) (a5 : decide (1048576 < q.d) = false) (a6 : decide (q.k = 8) = false) (a7 : w q.sv 0 2 = true) (a8 : w q.bt 1 1099511627776 = true) (a9 : w q.sq 1 1099511627776 =
  false) : VD Try.prog 41 [cmV q] [] (Orc.t (Orc.t (Orc.f (Orc.t (Orc.t (Orc.cal [] (cmV u) [] (Orc.t (Orc.t (Orc.cal [] (.b B) [] (Orc.t (Orc.f (Orc.t (Orc.t (Orc.t (Orc.f
  (Orc.t (Orc.t (Orc.t (Orc.f (Orc.f (Orc.f (Orc.cal [] (.b (w (Cm.sv q) 0 2)) [] (Orc.t (Orc.t (Orc.t (Orc.cal [] (.b (w (Cm.bt q) 1 1099511627776)) [] (Orc.t (Orc.f (Orc.t
  (Orc.t (Orc.t (Orc.cal [] (.b (w (Cm.sq q) 1 1099511627776)) [] (Orc.t (Orc.f (Orc.f (Orc.f (Orc.f (Orc.f (Orc.t (Orc.c Orc.z)))))))))))))))))))))))))))))))))))))))) (.b
  false) [] [] 1 (fun Lf => True ∧ (!decide (Cm.k q < 1)) = true ∧ (!decide (Cm.k q < 1)) = true ∧ decide (Cm.k q < 1) = false ∧ (!decide (8 < Cm.k q)) = true ∧ (!decide (8 <
  Cm.k q)) = true ∧ Con Try.prog 51 [cmV q] [] (cmV u) [] ∧ (!decide (8 < Cm.k q)) = true ∧ (!decide (8 < Cm.k q)) = true ∧ Con Try.prog 22 [cmV u, cmV q] [] (.b B) [] ∧
  (!decide (8 < Cm.k q)) = true ∧ True ∧ decide (8 < Cm.k q) = false ∧ (!!B) = true ∧ True ∧ (!!B) = true ∧ (!!B) = true ∧ (!B) = false ∧ (!decide (Cm.d q < 0)) = true ∧ True ∧
  (!decide (Cm.d q < 0)) = true ∧ (!decide (Cm.d q < 0)) = true ∧ decide (Cm.d q < 0) = false ∧ decide (1048576 < Cm.d q) = false ∧ decide (Cm.k q = 8) = false ∧ True ∧ Con
  Try.prog 52 [.i .i64 (Cm.sv q)] [] (.b (w (Cm.sv q) 0 2)) [] ∧ True ∧ (!!w (Cm.sv q) 0 2) = true ∧ True ∧ (!!w (Cm.sv q) 0 2) = true ∧ (!!w (Cm.sv q) 0 2) = true ∧ Con
  Try.prog 53 [.i .i64 (Cm.bt q), .i .i64 1] [] (.b (w (Cm.bt q) 1 1099511627776)) [] ∧ (!!w (Cm.sv q) 0 2) = true ∧ True ∧ (!w (Cm.sv q) 0 2) = false ∧ (!!w (Cm.bt q) 1
  1099511627776) = true ∧ True ∧ (!!w (Cm.bt q) 1 1099511627776) = true ∧ (!!w (Cm.bt q) 1 1099511627776) = true ∧ Con Try.prog 53 [.i .i64 (Cm.sq q), .i .i64 1] [] (.b (w
  (Cm.sq q) 1 1099511627776)) [] ∧ (!!w (Cm.bt q) 1 1099511627776) = true ∧ True ∧ (!w (Cm.bt q) 1 1099511627776) = false ∧ (!!w (Cm.sq q) 1 1099511627776) = false ∧ (!!w
  (Cm.sq q) 1 1099511627776) = false ∧ (!!w (Cm.sq q) 1 1099511627776) = false ∧ (!!w (Cm.sq q) 1 1099511627776) = false ∧ (!w (Cm.sq q) 1 1099511627776) = true ∧ Lf)
  := by unfold VD VQ; kernel_rfl
theorem va_vq (B : Bool) (u : Cm) (w : Int → Int → Int → Bool) (q : Cm) (a1 : decide (q.k < 1) = false) (a2 : decide (8 < q.k) = false) (a3 : B = true) (a4 : decide (q.d < 0) =
  false) (a5 : decide (1048576 < q.d) = false) (a6 : decide (q.k = 8) = false) (a7 : w q.sv 0 2 = true) (a8 : w q.bt 1 1099511627776 = true) (a9 : w q.sq 1 1099511627776 =
  true) (b1 : w q.gn 0 1099511627776 = false) : VD Try.prog 41 [cmV q] [] (Orc.t (Orc.t (Orc.f (Orc.t (Orc.t (Orc.cal [] (cmV u) [] (Orc.t (Orc.t (Orc.cal [] (.b B) [] (Orc.t
  (Orc.f (Orc.t (Orc.t (Orc.t (Orc.f (Orc.t (Orc.t (Orc.t (Orc.f (Orc.f (Orc.f (Orc.cal [] (.b (w (Cm.sv q) 0 2)) [] (Orc.t (Orc.t (Orc.t (Orc.cal [] (.b (w (Cm.bt q) 1
  1099511627776)) [] (Orc.t (Orc.f (Orc.t (Orc.t (Orc.t (Orc.cal [] (.b (w (Cm.sq q) 1 1099511627776)) [] (Orc.t (Orc.f (Orc.t (Orc.t (Orc.t (Orc.cal [] (.b (w (Cm.gn q) 0
  1099511627776)) [] (Orc.t (Orc.f (Orc.t Orc.z))))))))))))))))))))))))))))))))))))))))) (.b false) [] [] 1 (fun Lf => True ∧ (!decide (Cm.k q < 1)) = true ∧ (!decide (Cm.k q <
  1)) = true ∧ decide (Cm.k q < 1) = false ∧ (!decide (8 < Cm.k q)) = true ∧ (!decide (8 < Cm.k q)) = true ∧ Con Try.prog 51 [cmV q] [] (cmV u) [] ∧ (!decide (8 < Cm.k q)) =
  true ∧ (!decide (8 < Cm.k q)) = true ∧ Con Try.prog 22 [cmV u, cmV q] [] (.b B) [] ∧ (!decide (8 < Cm.k q)) = true ∧ True ∧ decide (8 < Cm.k q) = false ∧ (!!B) = true ∧ True
  ∧ (!!B) = true ∧ (!!B) = true ∧ (!B) = false ∧ (!decide (Cm.d q < 0)) = true ∧ True ∧ (!decide (Cm.d q < 0)) = true ∧ (!decide (Cm.d q < 0)) = true ∧ decide (Cm.d q < 0) =
  false ∧ decide (1048576 < Cm.d q) = false ∧ decide (Cm.k q = 8) = false ∧ True ∧ Con Try.prog 52 [.i .i64 (Cm.sv q)] [] (.b (w (Cm.sv q) 0 2)) [] ∧ True ∧ (!!w (Cm.sv q) 0
  2) = true ∧ True ∧ (!!w (Cm.sv q) 0 2) = true ∧ (!!w (Cm.sv q) 0 2) = true ∧ Con Try.prog 53 [.i .i64 (Cm.bt q), .i .i64 1] [] (.b (w (Cm.bt q) 1 1099511627776)) [] ∧ (!!w
  (Cm.sv q) 0 2) = true ∧ True ∧ (!w (Cm.sv q) 0 2) = false ∧ (!!w (Cm.bt q) 1 1099511627776) = true ∧ True ∧ (!!w (Cm.bt q) 1 1099511627776) = true ∧ (!!w (Cm.bt q) 1
  1099511627776) = true ∧ Con Try.prog 53 [.i .i64 (Cm.sq q), .i .i64 1] [] (.b (w (Cm.sq q) 1 1099511627776)) [] ∧ (!!w (Cm.bt q) 1 1099511627776) = true ∧ True ∧ (!w (Cm.bt
  q) 1 1099511627776) = false ∧ (!!w (Cm.sq q) 1 1099511627776) = true ∧ True ∧ (!!w (Cm.sq q) 1 1099511627776) = true ∧ (!!w (Cm.sq q) 1 1099511627776) = true ∧ Con Try.prog
  53 [.i .i64 (Cm.gn q), .i .i64 0] [] (.b (w (Cm.gn q) 0 1099511627776)) [] ∧ (!!w (Cm.sq q) 1 1099511627776) = true ∧ True ∧ (!w (Cm.sq q) 1 1099511627776) = false ∧ (!w
  (Cm.gn q) 0 1099511627776) = true ∧ Lf) := by unfold VD VQ; kernel_rfl
theorem vb_vq (B : Bool) (u : Cm) (w : Int → Int → Int → Bool) (q : Cm) (a1 : decide (q.k < 1) = false) (a2 : decide (8 < q.k) = false) (a3 : B = true) (a4 : decide (q.d < 0) =
  false) (a5 : decide (1048576 < q.d) = false) (a6 : decide (q.k = 8) = false) (a7 : w q.sv 0 2 = true) (a8 : w q.bt 1 1099511627776 = true) (a9 : w q.sq 1 1099511627776 =
  true) (b1 : w q.gn 0 1099511627776 = true) (b2 : decide (q.k = 7) = false) (b3 : decide (q.k = 3) = true) (b4 : decide (q.md < 1) = true) : VD Try.prog 41 [cmV q] [] (Orc.t
  (Orc.t (Orc.f (Orc.t (Orc.t (Orc.cal [] (cmV u) [] (Orc.t (Orc.t (Orc.cal [] (.b B) [] (Orc.t (Orc.f (Orc.t (Orc.t (Orc.t (Orc.f (Orc.t (Orc.t (Orc.t (Orc.f (Orc.f (Orc.f
  (Orc.cal [] (.b (w (Cm.sv q) 0 2)) [] (Orc.t (Orc.t (Orc.t (Orc.cal [] (.b (w (Cm.bt q) 1 1099511627776)) [] (Orc.t (Orc.f (Orc.t (Orc.t (Orc.t (Orc.cal [] (.b (w (Cm.sq q) 1
  1099511627776)) [] (Orc.t (Orc.f (Orc.t (Orc.t (Orc.t (Orc.cal [] (.b (w (Cm.gn q) 0 1099511627776)) [] (Orc.t (Orc.f (Orc.f (Orc.f (Orc.t (Orc.t (Orc.t (Orc.t (Orc.f (Orc.f
  (Orc.f (Orc.t (Orc.t (Orc.t (Orc.c Orc.z))))))))))))))))))))))))))))))))))))))))))))))))))))) (.b false) [] [] 1 (fun Lf => True ∧ (!decide (Cm.k q < 1)) = true ∧ (!decide
  (Cm.k q < 1)) = true ∧ decide (Cm.k q < 1) = false ∧ (!decide (8 < Cm.k q)) = true ∧ (!decide (8 < Cm.k q)) = true ∧ Con Try.prog 51 [cmV q] [] (cmV u) [] ∧ (!decide (8 <
  Cm.k q)) = true ∧ (!decide (8 < Cm.k q)) = true ∧ Con Try.prog 22 [cmV u, cmV q] [] (.b B) [] ∧ (!decide (8 < Cm.k q)) = true ∧ True ∧ decide (8 < Cm.k q) = false ∧ (!!B) =
  true ∧ True ∧ (!!B) = true ∧ (!!B) = true ∧ (!B) = false ∧ (!decide (Cm.d q < 0)) = true ∧ True ∧ (!decide (Cm.d q < 0)) = true ∧ (!decide (Cm.d q < 0)) = true ∧ decide (Cm.d
  q < 0) = false ∧ decide (1048576 < Cm.d q) = false ∧ decide (Cm.k q = 8) = false ∧ True ∧ Con Try.prog 52 [.i .i64 (Cm.sv q)] [] (.b (w (Cm.sv q) 0 2)) [] ∧ True ∧ (!!w
  (Cm.sv q) 0 2) = true ∧ True ∧ (!!w (Cm.sv q) 0 2) = true ∧ (!!w (Cm.sv q) 0 2) = true ∧ Con Try.prog 53 [.i .i64 (Cm.bt q), .i .i64 1] [] (.b (w (Cm.bt q) 1 1099511627776))
  [] ∧ (!!w (Cm.sv q) 0 2) = true ∧ True ∧ (!w (Cm.sv q) 0 2) = false ∧ (!!w (Cm.bt q) 1 1099511627776) = true ∧ True ∧ (!!w (Cm.bt q) 1 1099511627776) = true ∧ (!!w (Cm.bt q)
  1 1099511627776) = true ∧ Con Try.prog 53 [.i .i64 (Cm.sq q), .i .i64 1] [] (.b (w (Cm.sq q) 1 1099511627776)) [] ∧ (!!w (Cm.bt q) 1 1099511627776) = true ∧ True ∧ (!w
  (Cm.bt q) 1 1099511627776) = false ∧ (!!w (Cm.sq q) 1 1099511627776) = true ∧ True ∧ (!!w (Cm.sq q) 1 1099511627776) = true ∧ (!!w (Cm.sq q) 1 1099511627776) = true ∧ Con
  Try.prog 53 [.i .i64 (Cm.gn q), .i .i64 0] [] (.b (w (Cm.gn q) 0 1099511627776)) [] ∧ (!!w (Cm.sq q) 1 1099511627776) = true ∧ True ∧ (!w (Cm.sq q) 1 1099511627776) = false
  ∧ (!w (Cm.gn q) 0 1099511627776) = false ∧ decide (Cm.k q = 7) = false ∧ decide (Cm.k q = 3) = true ∧ True ∧ decide (Cm.k q = 3) = true ∧ decide (Cm.k q = 3) = true ∧ decide
  (Cm.k q = 3) = true ∧ (!decide (Cm.md q < 1)) = false ∧ (!decide (Cm.md q < 1)) = false ∧ (!decide (Cm.md q < 1)) = false ∧ decide (Cm.k q = 3) = true ∧ decide (Cm.md q < 1)
  = true ∧ decide (Cm.k q = 3) = true ∧ Lf) := by unfold VD VQ; kernel_rfl
theorem vc_vq (B : Bool) (u : Cm) (w : Int → Int → Int → Bool) (q : Cm) (a1 : decide (q.k < 1) = false) (a2 : decide (8 < q.k) = false) (a3 : B = true) (a4 : decide (q.d < 0) =
  false) (a5 : decide (1048576 < q.d) = false) (a6 : decide (q.k = 8) = false) (a7 : w q.sv 0 2 = true) (a8 : w q.bt 1 1099511627776 = true) (a9 : w q.sq 1 1099511627776 =
  true) (b1 : w q.gn 0 1099511627776 = true) (b2 : decide (q.k = 7) = false) (b3 : decide (q.k = 3) = true) (b4 : decide (q.md < 1) = false) (b5 : decide (2 < q.md) = true) :
  VD Try.prog 41 [cmV q] [] (Orc.t (Orc.t (Orc.f (Orc.t (Orc.t (Orc.cal [] (cmV u) [] (Orc.t (Orc.t (Orc.cal [] (.b B) [] (Orc.t (Orc.f (Orc.t (Orc.t (Orc.t (Orc.f (Orc.t
  (Orc.t (Orc.t (Orc.f (Orc.f (Orc.f (Orc.cal [] (.b (w (Cm.sv q) 0 2)) [] (Orc.t (Orc.t (Orc.t (Orc.cal [] (.b (w (Cm.bt q) 1 1099511627776)) [] (Orc.t (Orc.f (Orc.t (Orc.t
  (Orc.t (Orc.cal [] (.b (w (Cm.sq q) 1 1099511627776)) [] (Orc.t (Orc.f (Orc.t (Orc.t (Orc.t (Orc.cal [] (.b (w (Cm.gn q) 0 1099511627776)) [] (Orc.t (Orc.f (Orc.f (Orc.f
  (Orc.t (Orc.t (Orc.t (Orc.t (Orc.t (Orc.t (Orc.t (Orc.t (Orc.f (Orc.t (Orc.t Orc.z))))))))))))))))))))))))))))))))))))))))))))))))))))) (.b false) [] [] 1 (fun Lf => True ∧
  (!decide (Cm.k q < 1)) = true ∧ (!decide (Cm.k q < 1)) = true ∧ decide (Cm.k q < 1) = false ∧ (!decide (8 < Cm.k q)) = true ∧ (!decide (8 < Cm.k q)) = true ∧ Con Try.prog 51
  [cmV q] [] (cmV u) [] ∧ (!decide (8 < Cm.k q)) = true ∧ (!decide (8 < Cm.k q)) = true ∧ Con Try.prog 22 [cmV u, cmV q] [] (.b B) [] ∧ (!decide (8 < Cm.k q)) = true ∧ True ∧
  decide (8 < Cm.k q) = false ∧ (!!B) = true ∧ True ∧ (!!B) = true ∧ (!!B) = true ∧ (!B) = false ∧ (!decide (Cm.d q < 0)) = true ∧ True ∧ (!decide (Cm.d q < 0)) = true ∧
  (!decide (Cm.d q < 0)) = true ∧ decide (Cm.d q < 0) = false ∧ decide (1048576 < Cm.d q) = false ∧ decide (Cm.k q = 8) = false ∧ True ∧ Con Try.prog 52 [.i .i64 (Cm.sv q)] []
  (.b (w (Cm.sv q) 0 2)) [] ∧ True ∧ (!!w (Cm.sv q) 0 2) = true ∧ True ∧ (!!w (Cm.sv q) 0 2) = true ∧ (!!w (Cm.sv q) 0 2) = true ∧ Con Try.prog 53 [.i .i64 (Cm.bt q), .i .i64
  1] [] (.b (w (Cm.bt q) 1 1099511627776)) [] ∧ (!!w (Cm.sv q) 0 2) = true ∧ True ∧ (!w (Cm.sv q) 0 2) = false ∧ (!!w (Cm.bt q) 1 1099511627776) = true ∧ True ∧ (!!w (Cm.bt q)
  1 1099511627776) = true ∧ (!!w (Cm.bt q) 1 1099511627776) = true ∧ Con Try.prog 53 [.i .i64 (Cm.sq q), .i .i64 1] [] (.b (w (Cm.sq q) 1 1099511627776)) [] ∧ (!!w (Cm.bt q) 1
  1099511627776) = true ∧ True ∧ (!w (Cm.bt q) 1 1099511627776) = false ∧ (!!w (Cm.sq q) 1 1099511627776) = true ∧ True ∧ (!!w (Cm.sq q) 1 1099511627776) = true ∧ (!!w (Cm.sq
  q) 1 1099511627776) = true ∧ Con Try.prog 53 [.i .i64 (Cm.gn q), .i .i64 0] [] (.b (w (Cm.gn q) 0 1099511627776)) [] ∧ (!!w (Cm.sq q) 1 1099511627776) = true ∧ True ∧ (!w
  (Cm.sq q) 1 1099511627776) = false ∧ (!w (Cm.gn q) 0 1099511627776) = false ∧ decide (Cm.k q = 7) = false ∧ decide (Cm.k q = 3) = true ∧ True ∧ decide (Cm.k q = 3) = true ∧
  decide (Cm.k q = 3) = true ∧ decide (Cm.k q = 3) = true ∧ (!decide (Cm.md q < 1)) = true ∧ True ∧ (!decide (Cm.md q < 1)) = true ∧ (!decide (Cm.md q < 1)) = true ∧ decide
  (Cm.k q = 3) = true ∧ decide (Cm.md q < 1) = false ∧ decide (Cm.k q = 3) = true ∧ decide (2 < Cm.md q) = true ∧ Lf) := by unfold VD VQ; kernel_rfl
theorem vd_vq (B : Bool) (u : Cm) (w : Int → Int → Int → Bool) (q : Cm) (a1 : decide (q.k < 1) = false) (a2 : decide (8 < q.k) = false) (a3 : B = true) (a4 : decide (q.d < 0) =
  false) (a5 : decide (1048576 < q.d) = false) (a6 : decide (q.k = 8) = false) (a7 : w q.sv 0 2 = true) (a8 : w q.bt 1 1099511627776 = true) (a9 : w q.sq 1 1099511627776 =
  true) (b1 : w q.gn 0 1099511627776 = true) (b2 : decide (q.k = 7) = false) (b3 : decide (q.k = 3) = true) (b4 : decide (q.md < 1) = false) (b5 : decide (2 < q.md) = false)
  (b6 : decide (0 ≤ q.lk) = false) : VD Try.prog 41 [cmV q] [] (Orc.t (Orc.t (Orc.f (Orc.t (Orc.t (Orc.cal [] (cmV u) [] (Orc.t (Orc.t (Orc.cal [] (.b B) [] (Orc.t (Orc.f
  (Orc.t (Orc.t (Orc.t (Orc.f (Orc.t (Orc.t (Orc.t (Orc.f (Orc.f (Orc.f (Orc.cal [] (.b (w (Cm.sv q) 0 2)) [] (Orc.t (Orc.t (Orc.t (Orc.cal [] (.b (w (Cm.bt q) 1
  1099511627776)) [] (Orc.t (Orc.f (Orc.t (Orc.t (Orc.t (Orc.cal [] (.b (w (Cm.sq q) 1 1099511627776)) [] (Orc.t (Orc.f (Orc.t (Orc.t (Orc.t (Orc.cal [] (.b (w (Cm.gn q) 0
  1099511627776)) [] (Orc.t (Orc.f (Orc.f (Orc.f (Orc.t (Orc.t (Orc.t (Orc.t (Orc.t (Orc.t (Orc.t (Orc.t (Orc.f (Orc.t (Orc.f (Orc.f (Orc.f (Orc.f (Orc.f (oc 4
  Orc.z)))))))))))))))))))))))))))))))))))))))))))))))))))))))))) (.b false) [] [] 1 (fun Lf => True ∧ (!decide (Cm.k q < 1)) = true ∧ (!decide (Cm.k q < 1)) = true ∧ decide
  (Cm.k q < 1) = false ∧ (!decide (8 < Cm.k q)) = true ∧ (!decide (8 < Cm.k q)) = true ∧ Con Try.prog 51 [cmV q] [] (cmV u) [] ∧ (!decide (8 < Cm.k q)) = true ∧ (!decide (8 <
  Cm.k q)) = true ∧ Con Try.prog 22 [cmV u, cmV q] [] (.b B) [] ∧ (!decide (8 < Cm.k q)) = true ∧ True ∧ decide (8 < Cm.k q) = false ∧ (!!B) = true ∧ True ∧ (!!B) = true ∧
  (!!B) = true ∧ (!B) = false ∧ (!decide (Cm.d q < 0)) = true ∧ True ∧ (!decide (Cm.d q < 0)) = true ∧ (!decide (Cm.d q < 0)) = true ∧ decide (Cm.d q < 0) = false ∧ decide
  (1048576 < Cm.d q) = false ∧ decide (Cm.k q = 8) = false ∧ True ∧ Con Try.prog 52 [.i .i64 (Cm.sv q)] [] (.b (w (Cm.sv q) 0 2)) [] ∧ True ∧ (!!w (Cm.sv q) 0 2) = true ∧ True
  ∧ (!!w (Cm.sv q) 0 2) = true ∧ (!!w (Cm.sv q) 0 2) = true ∧ Con Try.prog 53 [.i .i64 (Cm.bt q), .i .i64 1] [] (.b (w (Cm.bt q) 1 1099511627776)) [] ∧ (!!w (Cm.sv q) 0 2) =
  true ∧ True ∧ (!w (Cm.sv q) 0 2) = false ∧ (!!w (Cm.bt q) 1 1099511627776) = true ∧ True ∧ (!!w (Cm.bt q) 1 1099511627776) = true ∧ (!!w (Cm.bt q) 1 1099511627776) = true ∧
  Con Try.prog 53 [.i .i64 (Cm.sq q), .i .i64 1] [] (.b (w (Cm.sq q) 1 1099511627776)) [] ∧ (!!w (Cm.bt q) 1 1099511627776) = true ∧ True ∧ (!w (Cm.bt q) 1 1099511627776) =
  false ∧ (!!w (Cm.sq q) 1 1099511627776) = true ∧ True ∧ (!!w (Cm.sq q) 1 1099511627776) = true ∧ (!!w (Cm.sq q) 1 1099511627776) = true ∧ Con Try.prog 53 [.i .i64 (Cm.gn q),
  .i .i64 0] [] (.b (w (Cm.gn q) 0 1099511627776)) [] ∧ (!!w (Cm.sq q) 1 1099511627776) = true ∧ True ∧ (!w (Cm.sq q) 1 1099511627776) = false ∧ (!w (Cm.gn q) 0 1099511627776)
  = false ∧ decide (Cm.k q = 7) = false ∧ decide (Cm.k q = 3) = true ∧ True ∧ decide (Cm.k q = 3) = true ∧ decide (Cm.k q = 3) = true ∧ decide (Cm.k q = 3) = true ∧ (!decide
  (Cm.md q < 1)) = true ∧ True ∧ (!decide (Cm.md q < 1)) = true ∧ (!decide (Cm.md q < 1)) = true ∧ decide (Cm.k q = 3) = true ∧ decide (Cm.md q < 1) = false ∧ decide (Cm.k q =
  3) = true ∧ decide (2 < Cm.md q) = false ∧ True ∧ decide (0 ≤ Cm.lk q) = false ∧ decide (0 ≤ Cm.lk q) = false ∧ decide (0 ≤ Cm.lk q) = false ∧ decide (0 ≤ Cm.lk q) = false ∧
  Lf) := by unfold VD VQ; kernel_rfl
theorem ve_vq (B : Bool) (u : Cm) (w : Int → Int → Int → Bool) (q : Cm) (a1 : decide (q.k < 1) = false) (a2 : decide (8 < q.k) = false) (a3 : B = true) (a4 : decide (q.d < 0) =
  false) (a5 : decide (1048576 < q.d) = false) (a6 : decide (q.k = 8) = false) (a7 : w q.sv 0 2 = true) (a8 : w q.bt 1 1099511627776 = true) (a9 : w q.sq 1 1099511627776 =
  true) (b1 : w q.gn 0 1099511627776 = true) (b2 : decide (q.k = 7) = false) (b3 : decide (q.k = 3) = true) (b4 : decide (q.md < 1) = false) (b5 : decide (2 < q.md) = false)
  (b6 : decide (0 ≤ q.lk) = true) (b7 : decide (q.lk < 19) = false) : VD Try.prog 41 [cmV q] [] (Orc.t (Orc.t (Orc.f (Orc.t (Orc.t (Orc.cal [] (cmV u) [] (Orc.t (Orc.t
  (Orc.cal [] (.b B) [] (Orc.t (Orc.f (Orc.t (Orc.t (Orc.t (Orc.f (Orc.t (Orc.t (Orc.t (Orc.f (Orc.f (Orc.f (Orc.cal [] (.b (w (Cm.sv q) 0 2)) [] (Orc.t (Orc.t (Orc.t (Orc.cal
  [] (.b (w (Cm.bt q) 1 1099511627776)) [] (Orc.t (Orc.f (Orc.t (Orc.t (Orc.t (Orc.cal [] (.b (w (Cm.sq q) 1 1099511627776)) [] (Orc.t (Orc.f (Orc.t (Orc.t (Orc.t (Orc.cal []
  (.b (w (Cm.gn q) 0 1099511627776)) [] (Orc.t (Orc.f (Orc.f (Orc.f (Orc.t (Orc.t (Orc.t (Orc.t (Orc.t (Orc.t (Orc.t (Orc.t (Orc.f (Orc.t (Orc.f (Orc.t (Orc.t (Orc.t (Orc.t
  (Orc.f (Orc.f (Orc.f (Orc.f Orc.z))))))))))))))))))))))))))))))))))))))))))))))))))))))))))))) (.b false) [] [] 1 (fun Lf => True ∧ (!decide (Cm.k q < 1)) = true ∧ (!decide
  (Cm.k q < 1)) = true ∧ decide (Cm.k q < 1) = false ∧ (!decide (8 < Cm.k q)) = true ∧ (!decide (8 < Cm.k q)) = true ∧ Con Try.prog 51 [cmV q] [] (cmV u) [] ∧ (!decide (8 <
  Cm.k q)) = true ∧ (!decide (8 < Cm.k q)) = true ∧ Con Try.prog 22 [cmV u, cmV q] [] (.b B) [] ∧ (!decide (8 < Cm.k q)) = true ∧ True ∧ decide (8 < Cm.k q) = false ∧ (!!B) =
  true ∧ True ∧ (!!B) = true ∧ (!!B) = true ∧ (!B) = false ∧ (!decide (Cm.d q < 0)) = true ∧ True ∧ (!decide (Cm.d q < 0)) = true ∧ (!decide (Cm.d q < 0)) = true ∧ decide (Cm.d
  q < 0) = false ∧ decide (1048576 < Cm.d q) = false ∧ decide (Cm.k q = 8) = false ∧ True ∧ Con Try.prog 52 [.i .i64 (Cm.sv q)] [] (.b (w (Cm.sv q) 0 2)) [] ∧ True ∧ (!!w
  (Cm.sv q) 0 2) = true ∧ True ∧ (!!w (Cm.sv q) 0 2) = true ∧ (!!w (Cm.sv q) 0 2) = true ∧ Con Try.prog 53 [.i .i64 (Cm.bt q), .i .i64 1] [] (.b (w (Cm.bt q) 1 1099511627776))
  [] ∧ (!!w (Cm.sv q) 0 2) = true ∧ True ∧ (!w (Cm.sv q) 0 2) = false ∧ (!!w (Cm.bt q) 1 1099511627776) = true ∧ True ∧ (!!w (Cm.bt q) 1 1099511627776) = true ∧ (!!w (Cm.bt q)
  1 1099511627776) = true ∧ Con Try.prog 53 [.i .i64 (Cm.sq q), .i .i64 1] [] (.b (w (Cm.sq q) 1 1099511627776)) [] ∧ (!!w (Cm.bt q) 1 1099511627776) = true ∧ True ∧ (!w
  (Cm.bt q) 1 1099511627776) = false ∧ (!!w (Cm.sq q) 1 1099511627776) = true ∧ True ∧ (!!w (Cm.sq q) 1 1099511627776) = true ∧ (!!w (Cm.sq q) 1 1099511627776) = true ∧ Con
  Try.prog 53 [.i .i64 (Cm.gn q), .i .i64 0] [] (.b (w (Cm.gn q) 0 1099511627776)) [] ∧ (!!w (Cm.sq q) 1 1099511627776) = true ∧ True ∧ (!w (Cm.sq q) 1 1099511627776) = false
  ∧ (!w (Cm.gn q) 0 1099511627776) = false ∧ decide (Cm.k q = 7) = false ∧ decide (Cm.k q = 3) = true ∧ True ∧ decide (Cm.k q = 3) = true ∧ decide (Cm.k q = 3) = true ∧ decide
  (Cm.k q = 3) = true ∧ (!decide (Cm.md q < 1)) = true ∧ True ∧ (!decide (Cm.md q < 1)) = true ∧ (!decide (Cm.md q < 1)) = true ∧ decide (Cm.k q = 3) = true ∧ decide (Cm.md q <
  1) = false ∧ decide (Cm.k q = 3) = true ∧ decide (2 < Cm.md q) = false ∧ True ∧ decide (0 ≤ Cm.lk q) = true ∧ True ∧ decide (0 ≤ Cm.lk q) = true ∧ decide (0 ≤ Cm.lk q) = true
  ∧ decide (0 ≤ Cm.lk q) = true ∧ decide (Cm.lk q < 19) = false ∧ decide (Cm.lk q < 19) = false ∧ decide (Cm.lk q < 19) = false ∧ decide (Cm.lk q < 19) = false ∧ Lf)
  := by unfold VD VQ; kernel_rfl
theorem vf_vq (B : Bool) (u : Cm) (w : Int → Int → Int → Bool) (q : Cm) (a1 : decide (q.k < 1) = false) (a2 : decide (8 < q.k) = false) (a3 : B = true) (a4 : decide (q.d < 0) =
  false) (a5 : decide (1048576 < q.d) = false) (a6 : decide (q.k = 8) = false) (a7 : w q.sv 0 2 = true) (a8 : w q.bt 1 1099511627776 = true) (a9 : w q.sq 1 1099511627776 =
  true) (b1 : w q.gn 0 1099511627776 = true) (b2 : decide (q.k = 7) = false) (b3 : decide (q.k = 3) = true) (b4 : decide (q.md < 1) = false) (b5 : decide (2 < q.md) = false)
  (b6 : decide (0 ≤ q.lk) = true) (b7 : decide (q.lk < 19) = true) : VD Try.prog 41 [cmV q] [] (Orc.t (Orc.t (Orc.f (Orc.t (Orc.t (Orc.cal [] (cmV u) [] (Orc.t (Orc.t (Orc.cal
  [] (.b B) [] (Orc.t (Orc.f (Orc.t (Orc.t (Orc.t (Orc.f (Orc.t (Orc.t (Orc.t (Orc.f (Orc.f (Orc.f (Orc.cal [] (.b (w (Cm.sv q) 0 2)) [] (Orc.t (Orc.t (Orc.t (Orc.cal [] (.b (w
  (Cm.bt q) 1 1099511627776)) [] (Orc.t (Orc.f (Orc.t (Orc.t (Orc.t (Orc.cal [] (.b (w (Cm.sq q) 1 1099511627776)) [] (Orc.t (Orc.f (Orc.t (Orc.t (Orc.t (Orc.cal [] (.b (w
  (Cm.gn q) 0 1099511627776)) [] (Orc.t (Orc.f (Orc.f (Orc.f (Orc.t (Orc.t (Orc.t (Orc.t (Orc.t (Orc.t (Orc.t (Orc.t (Orc.f (Orc.t (Orc.f (Orc.t (Orc.t (Orc.t (Orc.t (Orc.t
  (Orc.t (Orc.t (Orc.cal [] (.b (w (Cm.ot q) 0 2)) [] (Orc.t Orc.z)))))))))))))))))))))))))))))))))))))))))))))))))))))))))))))) (.b (w (Cm.ot q) 0 2)) [] [] 1 (fun Lf => True
  ∧ (!decide (Cm.k q < 1)) = true ∧ (!decide (Cm.k q < 1)) = true ∧ decide (Cm.k q < 1) = false ∧ (!decide (8 < Cm.k q)) = true ∧ (!decide (8 < Cm.k q)) = true ∧ Con Try.prog
  51 [cmV q] [] (cmV u) [] ∧ (!decide (8 < Cm.k q)) = true ∧ (!decide (8 < Cm.k q)) = true ∧ Con Try.prog 22 [cmV u, cmV q] [] (.b B) [] ∧ (!decide (8 < Cm.k q)) = true ∧ True
  ∧ decide (8 < Cm.k q) = false ∧ (!!B) = true ∧ True ∧ (!!B) = true ∧ (!!B) = true ∧ (!B) = false ∧ (!decide (Cm.d q < 0)) = true ∧ True ∧ (!decide (Cm.d q < 0)) = true ∧
  (!decide (Cm.d q < 0)) = true ∧ decide (Cm.d q < 0) = false ∧ decide (1048576 < Cm.d q) = false ∧ decide (Cm.k q = 8) = false ∧ True ∧ Con Try.prog 52 [.i .i64 (Cm.sv q)] []
  (.b (w (Cm.sv q) 0 2)) [] ∧ True ∧ (!!w (Cm.sv q) 0 2) = true ∧ True ∧ (!!w (Cm.sv q) 0 2) = true ∧ (!!w (Cm.sv q) 0 2) = true ∧ Con Try.prog 53 [.i .i64 (Cm.bt q), .i .i64
  1] [] (.b (w (Cm.bt q) 1 1099511627776)) [] ∧ (!!w (Cm.sv q) 0 2) = true ∧ True ∧ (!w (Cm.sv q) 0 2) = false ∧ (!!w (Cm.bt q) 1 1099511627776) = true ∧ True ∧ (!!w (Cm.bt q)
  1 1099511627776) = true ∧ (!!w (Cm.bt q) 1 1099511627776) = true ∧ Con Try.prog 53 [.i .i64 (Cm.sq q), .i .i64 1] [] (.b (w (Cm.sq q) 1 1099511627776)) [] ∧ (!!w (Cm.bt q) 1
  1099511627776) = true ∧ True ∧ (!w (Cm.bt q) 1 1099511627776) = false ∧ (!!w (Cm.sq q) 1 1099511627776) = true ∧ True ∧ (!!w (Cm.sq q) 1 1099511627776) = true ∧ (!!w (Cm.sq
  q) 1 1099511627776) = true ∧ Con Try.prog 53 [.i .i64 (Cm.gn q), .i .i64 0] [] (.b (w (Cm.gn q) 0 1099511627776)) [] ∧ (!!w (Cm.sq q) 1 1099511627776) = true ∧ True ∧ (!w
  (Cm.sq q) 1 1099511627776) = false ∧ (!w (Cm.gn q) 0 1099511627776) = false ∧ decide (Cm.k q = 7) = false ∧ decide (Cm.k q = 3) = true ∧ True ∧ decide (Cm.k q = 3) = true ∧
  decide (Cm.k q = 3) = true ∧ decide (Cm.k q = 3) = true ∧ (!decide (Cm.md q < 1)) = true ∧ True ∧ (!decide (Cm.md q < 1)) = true ∧ (!decide (Cm.md q < 1)) = true ∧ decide
  (Cm.k q = 3) = true ∧ decide (Cm.md q < 1) = false ∧ decide (Cm.k q = 3) = true ∧ decide (2 < Cm.md q) = false ∧ True ∧ decide (0 ≤ Cm.lk q) = true ∧ True ∧ decide (0 ≤ Cm.lk
  q) = true ∧ decide (0 ≤ Cm.lk q) = true ∧ decide (0 ≤ Cm.lk q) = true ∧ decide (Cm.lk q < 19) = true ∧ True ∧ decide (Cm.lk q < 19) = true ∧ decide (Cm.lk q < 19) = true ∧
  Con Try.prog 52 [.i .i64 (Cm.ot q)] [] (.b (w (Cm.ot q) 0 2)) [] ∧ decide (Cm.lk q < 19) = true ∧ Lf) := by unfold VD VQ; kernel_rfl
theorem vg_vq (B : Bool) (u : Cm) (w : Int → Int → Int → Bool) (q : Cm) (a1 : decide (q.k < 1) = false) (a2 : decide (8 < q.k) = false) (a3 : B = true) (a4 : decide (q.d < 0) =
  false) (a5 : decide (1048576 < q.d) = false) (a6 : decide (q.k = 8) = false) (a7 : w q.sv 0 2 = true) (a8 : w q.bt 1 1099511627776 = true) (a9 : w q.sq 1 1099511627776 =
  true) (b1 : w q.gn 0 1099511627776 = true) (b2 : decide (q.k = 7) = false) (b3 : decide (q.k = 3) = false) (b6 : decide (0 ≤ q.lk) = false) : VD Try.prog 41 [cmV q] []
  (Orc.t (Orc.t (Orc.f (Orc.t (Orc.t (Orc.cal [] (cmV u) [] (Orc.t (Orc.t (Orc.cal [] (.b B) [] (Orc.t (Orc.f (Orc.t (Orc.t (Orc.t (Orc.f (Orc.t (Orc.t (Orc.t (Orc.f (Orc.f
  (Orc.f (Orc.cal [] (.b (w (Cm.sv q) 0 2)) [] (Orc.t (Orc.t (Orc.t (Orc.cal [] (.b (w (Cm.bt q) 1 1099511627776)) [] (Orc.t (Orc.f (Orc.t (Orc.t (Orc.t (Orc.cal [] (.b (w
  (Cm.sq q) 1 1099511627776)) [] (Orc.t (Orc.f (Orc.t (Orc.t (Orc.t (Orc.cal [] (.b (w (Cm.gn q) 0 1099511627776)) [] (Orc.t (Orc.f (Orc.f (Orc.f (Orc.f (Orc.f (Orc.f (Orc.f
  (Orc.f (Orc.f (Orc.c (Orc.f (Orc.f (Orc.f (Orc.f (oc 4 Orc.z)))))))))))))))))))))))))))))))))))))))))))))))))))))) (.b false) [] [] 1 (fun Lf => True ∧ (!decide (Cm.k q < 1))
  = true ∧ (!decide (Cm.k q < 1)) = true ∧ decide (Cm.k q < 1) = false ∧ (!decide (8 < Cm.k q)) = true ∧ (!decide (8 < Cm.k q)) = true ∧ Con Try.prog 51 [cmV q] [] (cmV u) []
  ∧ (!decide (8 < Cm.k q)) = true ∧ (!decide (8 < Cm.k q)) = true ∧ Con Try.prog 22 [cmV u, cmV q] [] (.b B) [] ∧ (!decide (8 < Cm.k q)) = true ∧ True ∧ decide (8 < Cm.k q) =
  false ∧ (!!B) = true ∧ True ∧ (!!B) = true ∧ (!!B) = true ∧ (!B) = false ∧ (!decide (Cm.d q < 0)) = true ∧ True ∧ (!decide (Cm.d q < 0)) = true ∧ (!decide (Cm.d q < 0)) =
  true ∧ decide (Cm.d q < 0) = false ∧ decide (1048576 < Cm.d q) = false ∧ decide (Cm.k q = 8) = false ∧ True ∧ Con Try.prog 52 [.i .i64 (Cm.sv q)] [] (.b (w (Cm.sv q) 0 2))
  [] ∧ True ∧ (!!w (Cm.sv q) 0 2) = true ∧ True ∧ (!!w (Cm.sv q) 0 2) = true ∧ (!!w (Cm.sv q) 0 2) = true ∧ Con Try.prog 53 [.i .i64 (Cm.bt q), .i .i64 1] [] (.b (w (Cm.bt q)
  1 1099511627776)) [] ∧ (!!w (Cm.sv q) 0 2) = true ∧ True ∧ (!w (Cm.sv q) 0 2) = false ∧ (!!w (Cm.bt q) 1 1099511627776) = true ∧ True ∧ (!!w (Cm.bt q) 1 1099511627776) = true
  ∧ (!!w (Cm.bt q) 1 1099511627776) = true ∧ Con Try.prog 53 [.i .i64 (Cm.sq q), .i .i64 1] [] (.b (w (Cm.sq q) 1 1099511627776)) [] ∧ (!!w (Cm.bt q) 1 1099511627776) = true ∧
  True ∧ (!w (Cm.bt q) 1 1099511627776) = false ∧ (!!w (Cm.sq q) 1 1099511627776) = true ∧ True ∧ (!!w (Cm.sq q) 1 1099511627776) = true ∧ (!!w (Cm.sq q) 1 1099511627776) =
  true ∧ Con Try.prog 53 [.i .i64 (Cm.gn q), .i .i64 0] [] (.b (w (Cm.gn q) 0 1099511627776)) [] ∧ (!!w (Cm.sq q) 1 1099511627776) = true ∧ True ∧ (!w (Cm.sq q) 1
  1099511627776) = false ∧ (!w (Cm.gn q) 0 1099511627776) = false ∧ decide (Cm.k q = 7) = false ∧ decide (Cm.k q = 3) = false ∧ decide (Cm.k q = 3) = false ∧ decide (Cm.k q =
  3) = false ∧ decide (Cm.k q = 3) = false ∧ decide (Cm.k q = 3) = false ∧ decide (Cm.k q = 3) = false ∧ True ∧ decide (0 ≤ Cm.lk q) = false ∧ decide (0 ≤ Cm.lk q) = false ∧
  decide (0 ≤ Cm.lk q) = false ∧ decide (0 ≤ Cm.lk q) = false ∧ Lf) := by unfold VD VQ; kernel_rfl
theorem vh_vq (B : Bool) (u : Cm) (w : Int → Int → Int → Bool) (q : Cm) (a1 : decide (q.k < 1) = false) (a2 : decide (8 < q.k) = false) (a3 : B = true) (a4 : decide (q.d < 0) =
  false) (a5 : decide (1048576 < q.d) = false) (a6 : decide (q.k = 8) = false) (a7 : w q.sv 0 2 = true) (a8 : w q.bt 1 1099511627776 = true) (a9 : w q.sq 1 1099511627776 =
  true) (b1 : w q.gn 0 1099511627776 = true) (b2 : decide (q.k = 7) = false) (b3 : decide (q.k = 3) = false) (b6 : decide (0 ≤ q.lk) = true) (b7 : decide (q.lk < 19) = false) :
  VD Try.prog 41 [cmV q] [] (Orc.t (Orc.t (Orc.f (Orc.t (Orc.t (Orc.cal [] (cmV u) [] (Orc.t (Orc.t (Orc.cal [] (.b B) [] (Orc.t (Orc.f (Orc.t (Orc.t (Orc.t (Orc.f (Orc.t
  (Orc.t (Orc.t (Orc.f (Orc.f (Orc.f (Orc.cal [] (.b (w (Cm.sv q) 0 2)) [] (Orc.t (Orc.t (Orc.t (Orc.cal [] (.b (w (Cm.bt q) 1 1099511627776)) [] (Orc.t (Orc.f (Orc.t (Orc.t
  (Orc.t (Orc.cal [] (.b (w (Cm.sq q) 1 1099511627776)) [] (Orc.t (Orc.f (Orc.t (Orc.t (Orc.t (Orc.cal [] (.b (w (Cm.gn q) 0 1099511627776)) [] (Orc.t (Orc.f (Orc.f (Orc.f
  (Orc.f (Orc.f (Orc.f (Orc.f (Orc.f (Orc.f (Orc.c (Orc.t (Orc.t (Orc.t (Orc.t (Orc.f (Orc.f (Orc.f (Orc.f Orc.z))))))))))))))))))))))))))))))))))))))))))))))))))))))))) (.b
  false) [] [] 1 (fun Lf => True ∧ (!decide (Cm.k q < 1)) = true ∧ (!decide (Cm.k q < 1)) = true ∧ decide (Cm.k q < 1) = false ∧ (!decide (8 < Cm.k q)) = true ∧ (!decide (8 <
  Cm.k q)) = true ∧ Con Try.prog 51 [cmV q] [] (cmV u) [] ∧ (!decide (8 < Cm.k q)) = true ∧ (!decide (8 < Cm.k q)) = true ∧ Con Try.prog 22 [cmV u, cmV q] [] (.b B) [] ∧
  (!decide (8 < Cm.k q)) = true ∧ True ∧ decide (8 < Cm.k q) = false ∧ (!!B) = true ∧ True ∧ (!!B) = true ∧ (!!B) = true ∧ (!B) = false ∧ (!decide (Cm.d q < 0)) = true ∧ True ∧
  (!decide (Cm.d q < 0)) = true ∧ (!decide (Cm.d q < 0)) = true ∧ decide (Cm.d q < 0) = false ∧ decide (1048576 < Cm.d q) = false ∧ decide (Cm.k q = 8) = false ∧ True ∧ Con
  Try.prog 52 [.i .i64 (Cm.sv q)] [] (.b (w (Cm.sv q) 0 2)) [] ∧ True ∧ (!!w (Cm.sv q) 0 2) = true ∧ True ∧ (!!w (Cm.sv q) 0 2) = true ∧ (!!w (Cm.sv q) 0 2) = true ∧ Con
  Try.prog 53 [.i .i64 (Cm.bt q), .i .i64 1] [] (.b (w (Cm.bt q) 1 1099511627776)) [] ∧ (!!w (Cm.sv q) 0 2) = true ∧ True ∧ (!w (Cm.sv q) 0 2) = false ∧ (!!w (Cm.bt q) 1
  1099511627776) = true ∧ True ∧ (!!w (Cm.bt q) 1 1099511627776) = true ∧ (!!w (Cm.bt q) 1 1099511627776) = true ∧ Con Try.prog 53 [.i .i64 (Cm.sq q), .i .i64 1] [] (.b (w
  (Cm.sq q) 1 1099511627776)) [] ∧ (!!w (Cm.bt q) 1 1099511627776) = true ∧ True ∧ (!w (Cm.bt q) 1 1099511627776) = false ∧ (!!w (Cm.sq q) 1 1099511627776) = true ∧ True ∧ (!!w
  (Cm.sq q) 1 1099511627776) = true ∧ (!!w (Cm.sq q) 1 1099511627776) = true ∧ Con Try.prog 53 [.i .i64 (Cm.gn q), .i .i64 0] [] (.b (w (Cm.gn q) 0 1099511627776)) [] ∧ (!!w
  (Cm.sq q) 1 1099511627776) = true ∧ True ∧ (!w (Cm.sq q) 1 1099511627776) = false ∧ (!w (Cm.gn q) 0 1099511627776) = false ∧ decide (Cm.k q = 7) = false ∧ decide (Cm.k q = 3)
  = false ∧ decide (Cm.k q = 3) = false ∧ decide (Cm.k q = 3) = false ∧ decide (Cm.k q = 3) = false ∧ decide (Cm.k q = 3) = false ∧ decide (Cm.k q = 3) = false ∧ True ∧ decide
  (0 ≤ Cm.lk q) = true ∧ True ∧ decide (0 ≤ Cm.lk q) = true ∧ decide (0 ≤ Cm.lk q) = true ∧ decide (0 ≤ Cm.lk q) = true ∧ decide (Cm.lk q < 19) = false ∧ decide (Cm.lk q < 19)
  = false ∧ decide (Cm.lk q < 19) = false ∧ decide (Cm.lk q < 19) = false ∧ Lf) := by unfold VD VQ; kernel_rfl
theorem vi_vq (B : Bool) (u : Cm) (w : Int → Int → Int → Bool) (q : Cm) (a1 : decide (q.k < 1) = false) (a2 : decide (8 < q.k) = false) (a3 : B = true) (a4 : decide (q.d < 0) =
  false) (a5 : decide (1048576 < q.d) = false) (a6 : decide (q.k = 8) = false) (a7 : w q.sv 0 2 = true) (a8 : w q.bt 1 1099511627776 = true) (a9 : w q.sq 1 1099511627776 =
  true) (b1 : w q.gn 0 1099511627776 = true) (b2 : decide (q.k = 7) = false) (b3 : decide (q.k = 3) = false) (b6 : decide (0 ≤ q.lk) = true) (b7 : decide (q.lk < 19) = true) :
  VD Try.prog 41 [cmV q] [] (Orc.t (Orc.t (Orc.f (Orc.t (Orc.t (Orc.cal [] (cmV u) [] (Orc.t (Orc.t (Orc.cal [] (.b B) [] (Orc.t (Orc.f (Orc.t (Orc.t (Orc.t (Orc.f (Orc.t
  (Orc.t (Orc.t (Orc.f (Orc.f (Orc.f (Orc.cal [] (.b (w (Cm.sv q) 0 2)) [] (Orc.t (Orc.t (Orc.t (Orc.cal [] (.b (w (Cm.bt q) 1 1099511627776)) [] (Orc.t (Orc.f (Orc.t (Orc.t
  (Orc.t (Orc.cal [] (.b (w (Cm.sq q) 1 1099511627776)) [] (Orc.t (Orc.f (Orc.t (Orc.t (Orc.t (Orc.cal [] (.b (w (Cm.gn q) 0 1099511627776)) [] (Orc.t (Orc.f (Orc.f (Orc.f
  (Orc.f (Orc.f (Orc.f (Orc.f (Orc.f (Orc.f (Orc.c (Orc.t (Orc.t (Orc.t (Orc.t (Orc.t (Orc.t (Orc.t (Orc.cal [] (.b (w (Cm.ot q) 0 2)) [] (Orc.t
  Orc.z)))))))))))))))))))))))))))))))))))))))))))))))))))))))))) (.b (w (Cm.ot q) 0 2)) [] [] 1 (fun Lf => True ∧ (!decide (Cm.k q < 1)) = true ∧ (!decide (Cm.k q < 1)) = true
  ∧ decide (Cm.k q < 1) = false ∧ (!decide (8 < Cm.k q)) = true ∧ (!decide (8 < Cm.k q)) = true ∧ Con Try.prog 51 [cmV q] [] (cmV u) [] ∧ (!decide (8 < Cm.k q)) = true ∧
  (!decide (8 < Cm.k q)) = true ∧ Con Try.prog 22 [cmV u, cmV q] [] (.b B) [] ∧ (!decide (8 < Cm.k q)) = true ∧ True ∧ decide (8 < Cm.k q) = false ∧ (!!B) = true ∧ True ∧
  (!!B) = true ∧ (!!B) = true ∧ (!B) = false ∧ (!decide (Cm.d q < 0)) = true ∧ True ∧ (!decide (Cm.d q < 0)) = true ∧ (!decide (Cm.d q < 0)) = true ∧ decide (Cm.d q < 0) =
  false ∧ decide (1048576 < Cm.d q) = false ∧ decide (Cm.k q = 8) = false ∧ True ∧ Con Try.prog 52 [.i .i64 (Cm.sv q)] [] (.b (w (Cm.sv q) 0 2)) [] ∧ True ∧ (!!w (Cm.sv q) 0
  2) = true ∧ True ∧ (!!w (Cm.sv q) 0 2) = true ∧ (!!w (Cm.sv q) 0 2) = true ∧ Con Try.prog 53 [.i .i64 (Cm.bt q), .i .i64 1] [] (.b (w (Cm.bt q) 1 1099511627776)) [] ∧ (!!w
  (Cm.sv q) 0 2) = true ∧ True ∧ (!w (Cm.sv q) 0 2) = false ∧ (!!w (Cm.bt q) 1 1099511627776) = true ∧ True ∧ (!!w (Cm.bt q) 1 1099511627776) = true ∧ (!!w (Cm.bt q) 1
  1099511627776) = true ∧ Con Try.prog 53 [.i .i64 (Cm.sq q), .i .i64 1] [] (.b (w (Cm.sq q) 1 1099511627776)) [] ∧ (!!w (Cm.bt q) 1 1099511627776) = true ∧ True ∧ (!w (Cm.bt
  q) 1 1099511627776) = false ∧ (!!w (Cm.sq q) 1 1099511627776) = true ∧ True ∧ (!!w (Cm.sq q) 1 1099511627776) = true ∧ (!!w (Cm.sq q) 1 1099511627776) = true ∧ Con Try.prog
  53 [.i .i64 (Cm.gn q), .i .i64 0] [] (.b (w (Cm.gn q) 0 1099511627776)) [] ∧ (!!w (Cm.sq q) 1 1099511627776) = true ∧ True ∧ (!w (Cm.sq q) 1 1099511627776) = false ∧ (!w
  (Cm.gn q) 0 1099511627776) = false ∧ decide (Cm.k q = 7) = false ∧ decide (Cm.k q = 3) = false ∧ decide (Cm.k q = 3) = false ∧ decide (Cm.k q = 3) = false ∧ decide (Cm.k q =
  3) = false ∧ decide (Cm.k q = 3) = false ∧ decide (Cm.k q = 3) = false ∧ True ∧ decide (0 ≤ Cm.lk q) = true ∧ True ∧ decide (0 ≤ Cm.lk q) = true ∧ decide (0 ≤ Cm.lk q) = true
  ∧ decide (0 ≤ Cm.lk q) = true ∧ decide (Cm.lk q < 19) = true ∧ True ∧ decide (Cm.lk q < 19) = true ∧ decide (Cm.lk q < 19) = true ∧ Con Try.prog 52 [.i .i64 (Cm.ot q)] []
  (.b (w (Cm.ot q) 0 2)) [] ∧ decide (Cm.lk q < 19) = true ∧ Lf) := by unfold VD VQ; kernel_rfl
theorem vx_vq (B : Bool) (u : Cm) (w : Int → Int → Int → Bool) (q : Cm) (a1 : decide (q.k < 1) = false) (a2 : decide (8 < q.k) = false) (a3 : B = true) (a4 : decide (q.d < 0) =
  false) (a5 : decide (1048576 < q.d) = false) (a6 : decide (q.k = 8) = false) (a7 : w q.sv 0 2 = true) (a8 : w q.bt 1 1099511627776 = true) (a9 : w q.sq 1 1099511627776 =
  true) (b1 : w q.gn 0 1099511627776 = true) (b2 : decide (q.k = 7) = true) : VD Try.prog 41 [cmV q] [] (Orc.t (Orc.t (Orc.f (Orc.t (Orc.t (Orc.cal [] (cmV u) [] (Orc.t (Orc.t
  (Orc.cal [] (.b B) [] (Orc.t (Orc.f (Orc.t (Orc.t (Orc.t (Orc.f (Orc.t (Orc.t (Orc.t (Orc.f (Orc.f (Orc.f (Orc.cal [] (.b (w (Cm.sv q) 0 2)) [] (Orc.t (Orc.t (Orc.t (Orc.cal
  [] (.b (w (Cm.bt q) 1 1099511627776)) [] (Orc.t (Orc.f (Orc.t (Orc.t (Orc.t (Orc.cal [] (.b (w (Cm.sq q) 1 1099511627776)) [] (Orc.t (Orc.f (Orc.t (Orc.t (Orc.t (Orc.cal []
  (.b (w (Cm.gn q) 0 1099511627776)) [] (Orc.t (Orc.f (Orc.f (Orc.t (Orc.lop [0] [1, 4] 1 XO.ret [(2, .b false)] [some (cellsO 33 (cmL q))]
  Orc.z))))))))))))))))))))))))))))))))))))))))))) (.b false) [] [] 1 (fun Lf => True ∧ (!decide (Cm.k q < 1)) = true ∧ (!decide (Cm.k q < 1)) = true ∧ decide (Cm.k q < 1) =
  false ∧ (!decide (8 < Cm.k q)) = true ∧ (!decide (8 < Cm.k q)) = true ∧ Con Try.prog 51 [cmV q] [] (cmV u) [] ∧ (!decide (8 < Cm.k q)) = true ∧ (!decide (8 < Cm.k q)) = true
  ∧ Con Try.prog 22 [cmV u, cmV q] [] (.b B) [] ∧ (!decide (8 < Cm.k q)) = true ∧ True ∧ decide (8 < Cm.k q) = false ∧ (!!B) = true ∧ True ∧ (!!B) = true ∧ (!!B) = true ∧ (!B)
  = false ∧ (!decide (Cm.d q < 0)) = true ∧ True ∧ (!decide (Cm.d q < 0)) = true ∧ (!decide (Cm.d q < 0)) = true ∧ decide (Cm.d q < 0) = false ∧ decide (1048576 < Cm.d q) =
  false ∧ decide (Cm.k q = 8) = false ∧ True ∧ Con Try.prog 52 [.i .i64 (Cm.sv q)] [] (.b (w (Cm.sv q) 0 2)) [] ∧ True ∧ (!!w (Cm.sv q) 0 2) = true ∧ True ∧ (!!w (Cm.sv q) 0
  2) = true ∧ (!!w (Cm.sv q) 0 2) = true ∧ Con Try.prog 53 [.i .i64 (Cm.bt q), .i .i64 1] [] (.b (w (Cm.bt q) 1 1099511627776)) [] ∧ (!!w (Cm.sv q) 0 2) = true ∧ True ∧ (!w
  (Cm.sv q) 0 2) = false ∧ (!!w (Cm.bt q) 1 1099511627776) = true ∧ True ∧ (!!w (Cm.bt q) 1 1099511627776) = true ∧ (!!w (Cm.bt q) 1 1099511627776) = true ∧ Con Try.prog 53
  [.i .i64 (Cm.sq q), .i .i64 1] [] (.b (w (Cm.sq q) 1 1099511627776)) [] ∧ (!!w (Cm.bt q) 1 1099511627776) = true ∧ True ∧ (!w (Cm.bt q) 1 1099511627776) = false ∧ (!!w (Cm.sq
  q) 1 1099511627776) = true ∧ True ∧ (!!w (Cm.sq q) 1 1099511627776) = true ∧ (!!w (Cm.sq q) 1 1099511627776) = true ∧ Con Try.prog 53 [.i .i64 (Cm.gn q), .i .i64 0] [] (.b
  (w (Cm.gn q) 0 1099511627776)) [] ∧ (!!w (Cm.sq q) 1 1099511627776) = true ∧ True ∧ (!w (Cm.sq q) 1 1099511627776) = false ∧ (!w (Cm.gn q) 0 1099511627776) = false ∧ decide
  (Cm.k q = 7) = true ∧ LDoes Try.prog (loopAt Try.prog 41 0) 108 1 (mkT [(1, .p 0 0), (4, .i .i64 0)]) [some (cellsO 33 (cmL q))] XO.ret (mkT [(2, .b false)]) [some (cellsO
  33 (cmL q))] ∧ Lf) := by unfold VD VQ; kernel_rfl
theorem vy_vq (B : Bool) (u : Cm) (w : Int → Int → Int → Bool) (q : Cm) (a1 : decide (q.k < 1) = false) (a2 : decide (8 < q.k) = false) (a3 : B = true) (a4 : decide (q.d < 0) =
  false) (a5 : decide (1048576 < q.d) = false) (a6 : decide (q.k = 8) = false) (a7 : w q.sv 0 2 = true) (a8 : w q.bt 1 1099511627776 = true) (a9 : w q.sq 1 1099511627776 =
  true) (b1 : w q.gn 0 1099511627776 = true) (b2 : decide (q.k = 7) = true) (c1 : decide (1 ≤ Int.ofNat q.mn) = false) : VD Try.prog 41 [cmV q] [] (Orc.t (Orc.t (Orc.f (Orc.t
  (Orc.t (Orc.cal [] (cmV u) [] (Orc.t (Orc.t (Orc.cal [] (.b B) [] (Orc.t (Orc.f (Orc.t (Orc.t (Orc.t (Orc.f (Orc.t (Orc.t (Orc.t (Orc.f (Orc.f (Orc.f (Orc.cal [] (.b (w
  (Cm.sv q) 0 2)) [] (Orc.t (Orc.t (Orc.t (Orc.cal [] (.b (w (Cm.bt q) 1 1099511627776)) [] (Orc.t (Orc.f (Orc.t (Orc.t (Orc.t (Orc.cal [] (.b (w (Cm.sq q) 1 1099511627776)) []
  (Orc.t (Orc.f (Orc.t (Orc.t (Orc.t (Orc.cal [] (.b (w (Cm.gn q) 0 1099511627776)) [] (Orc.t (Orc.f (Orc.f (Orc.t (Orc.lop [0] [1, 4] 1 (XO.exit 0) [(1, .p 0 0)] [some (cellsO
  33 (cmL q))] (Orc.f (Orc.f (Orc.f (Orc.f (Orc.f Orc.z)))))))))))))))))))))))))))))))))))))))))))))))) (.b false) [] [] 1 (fun Lf => True ∧ (!decide (Cm.k q < 1)) = true ∧
  (!decide (Cm.k q < 1)) = true ∧ decide (Cm.k q < 1) = false ∧ (!decide (8 < Cm.k q)) = true ∧ (!decide (8 < Cm.k q)) = true ∧ Con Try.prog 51 [cmV q] [] (cmV u) [] ∧
  (!decide (8 < Cm.k q)) = true ∧ (!decide (8 < Cm.k q)) = true ∧ Con Try.prog 22 [cmV u, cmV q] [] (.b B) [] ∧ (!decide (8 < Cm.k q)) = true ∧ True ∧ decide (8 < Cm.k q) =
  false ∧ (!!B) = true ∧ True ∧ (!!B) = true ∧ (!!B) = true ∧ (!B) = false ∧ (!decide (Cm.d q < 0)) = true ∧ True ∧ (!decide (Cm.d q < 0)) = true ∧ (!decide (Cm.d q < 0)) =
  true ∧ decide (Cm.d q < 0) = false ∧ decide (1048576 < Cm.d q) = false ∧ decide (Cm.k q = 8) = false ∧ True ∧ Con Try.prog 52 [.i .i64 (Cm.sv q)] [] (.b (w (Cm.sv q) 0 2))
  [] ∧ True ∧ (!!w (Cm.sv q) 0 2) = true ∧ True ∧ (!!w (Cm.sv q) 0 2) = true ∧ (!!w (Cm.sv q) 0 2) = true ∧ Con Try.prog 53 [.i .i64 (Cm.bt q), .i .i64 1] [] (.b (w (Cm.bt q)
  1 1099511627776)) [] ∧ (!!w (Cm.sv q) 0 2) = true ∧ True ∧ (!w (Cm.sv q) 0 2) = false ∧ (!!w (Cm.bt q) 1 1099511627776) = true ∧ True ∧ (!!w (Cm.bt q) 1 1099511627776) = true
  ∧ (!!w (Cm.bt q) 1 1099511627776) = true ∧ Con Try.prog 53 [.i .i64 (Cm.sq q), .i .i64 1] [] (.b (w (Cm.sq q) 1 1099511627776)) [] ∧ (!!w (Cm.bt q) 1 1099511627776) = true ∧
  True ∧ (!w (Cm.bt q) 1 1099511627776) = false ∧ (!!w (Cm.sq q) 1 1099511627776) = true ∧ True ∧ (!!w (Cm.sq q) 1 1099511627776) = true ∧ (!!w (Cm.sq q) 1 1099511627776) =
  true ∧ Con Try.prog 53 [.i .i64 (Cm.gn q), .i .i64 0] [] (.b (w (Cm.gn q) 0 1099511627776)) [] ∧ (!!w (Cm.sq q) 1 1099511627776) = true ∧ True ∧ (!w (Cm.sq q) 1
  1099511627776) = false ∧ (!w (Cm.gn q) 0 1099511627776) = false ∧ decide (Cm.k q = 7) = true ∧ LDoes Try.prog (loopAt Try.prog 41 0) 108 1 (mkT [(1, .p 0 0), (4, .i .i64
  0)]) [some (cellsO 33 (cmL q))] (XO.exit 0) (mkT [(1, .p 0 0)]) [some (cellsO 33 (cmL q))] ∧ True ∧ decide (1 ≤ Int.ofNat (Cm.mn q)) = false ∧ decide (1 ≤ Int.ofNat (Cm.mn
  q)) = false ∧ decide (1 ≤ Int.ofNat (Cm.mn q)) = false ∧ decide (1 ≤ Int.ofNat (Cm.mn q)) = false ∧ decide (1 ≤ Int.ofNat (Cm.mn q)) = false ∧ Lf)
  := by unfold VD VQ; kernel_rfl
theorem vz_vq (B : Bool) (u : Cm) (w : Int → Int → Int → Bool) (q : Cm) (a1 : decide (q.k < 1) = false) (a2 : decide (8 < q.k) = false) (a3 : B = true) (a4 : decide (q.d < 0) =
  false) (a5 : decide (1048576 < q.d) = false) (a6 : decide (q.k = 8) = false) (a7 : w q.sv 0 2 = true) (a8 : w q.bt 1 1099511627776 = true) (a9 : w q.sq 1 1099511627776 =
  true) (b1 : w q.gn 0 1099511627776 = true) (b2 : decide (q.k = 7) = true) (c1 : decide (1 ≤ Int.ofNat q.mn) = true) : VD Try.prog 41 [cmV q] [] (Orc.t (Orc.t (Orc.f (Orc.t
  (Orc.t (Orc.cal [] (cmV u) [] (Orc.t (Orc.t (Orc.cal [] (.b B) [] (Orc.t (Orc.f (Orc.t (Orc.t (Orc.t (Orc.f (Orc.t (Orc.t (Orc.t (Orc.f (Orc.f (Orc.f (Orc.cal [] (.b (w
  (Cm.sv q) 0 2)) [] (Orc.t (Orc.t (Orc.t (Orc.cal [] (.b (w (Cm.bt q) 1 1099511627776)) [] (Orc.t (Orc.f (Orc.t (Orc.t (Orc.t (Orc.cal [] (.b (w (Cm.sq q) 1 1099511627776)) []
  (Orc.t (Orc.f (Orc.t (Orc.t (Orc.t (Orc.cal [] (.b (w (Cm.gn q) 0 1099511627776)) [] (Orc.t (Orc.f (Orc.f (Orc.t (Orc.lop [0] [1, 4] 1 (XO.exit 0) [(1, .p 0 0)] [some (cellsO
  33 (cmL q))] (Orc.t (Orc.t (Orc.t (Orc.t (Orc.t Orc.z)))))))))))))))))))))))))))))))))))))))))))))))) (.b (decide (Int.ofNat (Cm.mn q) ≤ 3))) [] [] 1 (fun Lf => True ∧
  (!decide (Cm.k q < 1)) = true ∧ (!decide (Cm.k q < 1)) = true ∧ decide (Cm.k q < 1) = false ∧ (!decide (8 < Cm.k q)) = true ∧ (!decide (8 < Cm.k q)) = true ∧ Con Try.prog 51
  [cmV q] [] (cmV u) [] ∧ (!decide (8 < Cm.k q)) = true ∧ (!decide (8 < Cm.k q)) = true ∧ Con Try.prog 22 [cmV u, cmV q] [] (.b B) [] ∧ (!decide (8 < Cm.k q)) = true ∧ True ∧
  decide (8 < Cm.k q) = false ∧ (!!B) = true ∧ True ∧ (!!B) = true ∧ (!!B) = true ∧ (!B) = false ∧ (!decide (Cm.d q < 0)) = true ∧ True ∧ (!decide (Cm.d q < 0)) = true ∧
  (!decide (Cm.d q < 0)) = true ∧ decide (Cm.d q < 0) = false ∧ decide (1048576 < Cm.d q) = false ∧ decide (Cm.k q = 8) = false ∧ True ∧ Con Try.prog 52 [.i .i64 (Cm.sv q)] []
  (.b (w (Cm.sv q) 0 2)) [] ∧ True ∧ (!!w (Cm.sv q) 0 2) = true ∧ True ∧ (!!w (Cm.sv q) 0 2) = true ∧ (!!w (Cm.sv q) 0 2) = true ∧ Con Try.prog 53 [.i .i64 (Cm.bt q), .i .i64
  1] [] (.b (w (Cm.bt q) 1 1099511627776)) [] ∧ (!!w (Cm.sv q) 0 2) = true ∧ True ∧ (!w (Cm.sv q) 0 2) = false ∧ (!!w (Cm.bt q) 1 1099511627776) = true ∧ True ∧ (!!w (Cm.bt q)
  1 1099511627776) = true ∧ (!!w (Cm.bt q) 1 1099511627776) = true ∧ Con Try.prog 53 [.i .i64 (Cm.sq q), .i .i64 1] [] (.b (w (Cm.sq q) 1 1099511627776)) [] ∧ (!!w (Cm.bt q) 1
  1099511627776) = true ∧ True ∧ (!w (Cm.bt q) 1 1099511627776) = false ∧ (!!w (Cm.sq q) 1 1099511627776) = true ∧ True ∧ (!!w (Cm.sq q) 1 1099511627776) = true ∧ (!!w (Cm.sq
  q) 1 1099511627776) = true ∧ Con Try.prog 53 [.i .i64 (Cm.gn q), .i .i64 0] [] (.b (w (Cm.gn q) 0 1099511627776)) [] ∧ (!!w (Cm.sq q) 1 1099511627776) = true ∧ True ∧ (!w
  (Cm.sq q) 1 1099511627776) = false ∧ (!w (Cm.gn q) 0 1099511627776) = false ∧ decide (Cm.k q = 7) = true ∧ LDoes Try.prog (loopAt Try.prog 41 0) 108 1 (mkT [(1, .p 0 0),
  (4, .i .i64 0)]) [some (cellsO 33 (cmL q))] (XO.exit 0) (mkT [(1, .p 0 0)]) [some (cellsO 33 (cmL q))] ∧ True ∧ decide (1 ≤ Int.ofNat (Cm.mn q)) = true ∧ True ∧ decide (1 ≤
  Int.ofNat (Cm.mn q)) = true ∧ decide (1 ≤ Int.ofNat (Cm.mn q)) = true ∧ decide (1 ≤ Int.ofNat (Cm.mn q)) = true ∧ decide (1 ≤ Int.ofNat (Cm.mn q)) = true ∧ Lf)
  := by unfold VD VQ; kernel_rfl
theorem u8_vq (q : Cm) (h : decide (q.k = 8) = true) : VD Try.prog 51 [cmV q] [] (Orc.t Orc.z) (.agg [.i .i64 (Cm.k q), .i .i64 0, .i .i64 0, .i .i64 0, .i .i64 0, .i .i64 0,
  .i .i64 0, .i .i64 0, .l0, .i .i64 (Cm.d q)]) [] [] 3 (fun Lf => True ∧ True ∧ True ∧ decide (Cm.k q = 8) = true ∧ Lf) := by unfold VD VQ; kernel_rfl
theorem u1_vq (q : Cm) (h8 : decide (q.k = 8) = false) (h3 : decide (q.k = 3) = false) (h4 : decide (q.k = 4) = false) (h5 : decide (q.k = 5) = false) (h6 : decide (q.k = 6) =
  false) (h7 : decide (q.k = 7) = false) (h1 : decide (q.k = 1) = true) : VD Try.prog 51 [cmV q] [] (Orc.f (Orc.f (Orc.f (Orc.f (Orc.f (Orc.f (Orc.f Orc.z))))))) (.agg [.i
  .i64 (Cm.k q), .i .i64 (Cm.sv q), .i .i64 (Cm.bt q), .i .i64 (Cm.sq q), .i .i64 0, .i .i64 0, .i .i64 0, .i .i64 0, .l0, .i .i64 (Cm.d q)]) [] [] 3 (fun Lf => True ∧ True ∧
  True ∧ decide (Cm.k q = 8) = false ∧ True ∧ True ∧ True ∧ True ∧ True ∧ True ∧ (!decide (Cm.k q = 1)) = false ∧ decide (Cm.k q = 3) = false ∧ decide (Cm.k q = 4) = false ∧
  decide (Cm.k q = 5) = false ∧ decide (Cm.k q = 6) = false ∧ decide (Cm.k q = 7) = false ∧ Lf) := by unfold VD VQ; kernel_rfl
theorem u3_vq (q : Cm) (h8 : decide (q.k = 8) = false) (h1 : decide (q.k = 1) = false) (h3 : decide (q.k = 3) = true) : VD Try.prog 51 [cmV q] [] (Orc.f (Orc.t (Orc.t Orc.z)))
  (.agg [.i .i64 (Cm.k q), .i .i64 (Cm.sv q), .i .i64 (Cm.bt q), .i .i64 (Cm.sq q), .i .i64 (Cm.gn q), .i .i64 (Cm.lk q), .i .i64 (Cm.md q), .i .i64 0, .l0, .i .i64 (Cm.d q)])
  [] [] 3 (fun Lf => True ∧ True ∧ True ∧ decide (Cm.k q = 8) = false ∧ True ∧ True ∧ True ∧ True ∧ True ∧ True ∧ (!decide (Cm.k q = 1)) = true ∧ True ∧ True ∧ decide (Cm.k q =
  3) = true ∧ True ∧ True ∧ True ∧ True ∧ Lf) := by unfold VD VQ; kernel_rfl
theorem u4_vq (q : Cm) (h8 : decide (q.k = 8) = false) (h1 : decide (q.k = 1) = false) (h3 : decide (q.k = 3) = false) (h4 : decide (q.k = 4) = true) : VD Try.prog 51 [cmV q]
  [] (Orc.f (Orc.t (Orc.f (Orc.t Orc.z)))) (.agg [.i .i64 (Cm.k q), .i .i64 (Cm.sv q), .i .i64 (Cm.bt q), .i .i64 (Cm.sq q), .i .i64 (Cm.gn q), .i .i64 (Cm.lk q), .i .i64 0, .i
  .i64 0, .l0, .i .i64 (Cm.d q)]) [] [] 3 (fun Lf => True ∧ True ∧ True ∧ decide (Cm.k q = 8) = false ∧ True ∧ True ∧ True ∧ True ∧ True ∧ True ∧ (!decide (Cm.k q = 1)) = true
  ∧ True ∧ True ∧ decide (Cm.k q = 3) = false ∧ decide (Cm.k q = 4) = true ∧ True ∧ True ∧ Lf) := by unfold VD VQ; kernel_rfl
theorem u5_vq (q : Cm) (h8 : decide (q.k = 8) = false) (h1 : decide (q.k = 1) = false) (h3 : decide (q.k = 3) = false) (h4 : decide (q.k = 4) = false) (h5 : decide (q.k = 5) =
  true) : VD Try.prog 51 [cmV q] [] (Orc.f (Orc.t (Orc.f (Orc.f (Orc.t (Orc.t Orc.z)))))) (.agg [.i .i64 (Cm.k q), .i .i64 (Cm.sv q), .i .i64 (Cm.bt q), .i .i64 (Cm.sq q), .i
  .i64 (Cm.gn q), .i .i64 0, .i .i64 0, .i .i64 (Cm.ot q), .l0, .i .i64 (Cm.d q)]) [] [] 3 (fun Lf => True ∧ True ∧ True ∧ decide (Cm.k q = 8) = false ∧ True ∧ True ∧ True ∧
  True ∧ True ∧ True ∧ (!decide (Cm.k q = 1)) = true ∧ True ∧ True ∧ decide (Cm.k q = 3) = false ∧ decide (Cm.k q = 4) = false ∧ decide (Cm.k q = 5) = true ∧ decide (Cm.k q =
  5) = true ∧ True ∧ True ∧ Lf) := by unfold VD VQ; kernel_rfl
theorem u6_vq (q : Cm) (h8 : decide (q.k = 8) = false) (h1 : decide (q.k = 1) = false) (h3 : decide (q.k = 3) = false) (h4 : decide (q.k = 4) = false) (h5 : decide (q.k = 5) =
  false) (h6 : decide (q.k = 6) = true) : VD Try.prog 51 [cmV q] [] (Orc.f (Orc.t (Orc.f (Orc.f (Orc.f (Orc.t Orc.z)))))) (.agg [.i .i64 (Cm.k q), .i .i64 (Cm.sv q), .i .i64
  (Cm.bt q), .i .i64 (Cm.sq q), .i .i64 (Cm.gn q), .i .i64 0, .i .i64 0, .i .i64 (Cm.ot q), .l0, .i .i64 (Cm.d q)]) [] [] 3 (fun Lf => True ∧ True ∧ True ∧ decide (Cm.k q = 8)
  = false ∧ True ∧ True ∧ True ∧ True ∧ True ∧ True ∧ (!decide (Cm.k q = 1)) = true ∧ True ∧ True ∧ decide (Cm.k q = 3) = false ∧ decide (Cm.k q = 4) = false ∧ decide (Cm.k q =
  5) = false ∧ decide (Cm.k q = 6) = true ∧ True ∧ True ∧ Lf) := by unfold VD VQ; kernel_rfl
theorem u7_vq (q : Cm) (h8 : decide (q.k = 8) = false) (h1 : decide (q.k = 1) = false) (h3 : decide (q.k = 3) = false) (h4 : decide (q.k = 4) = false) (h5 : decide (q.k = 5) =
  false) (h6 : decide (q.k = 6) = false) (h7 : decide (q.k = 7) = true) : VD Try.prog 51 [cmV q] [] (Orc.f (Orc.t (Orc.f (Orc.f (Orc.f (Orc.f (Orc.t Orc.z))))))) (.agg [.i
  .i64 (Cm.k q), .i .i64 (Cm.sv q), .i .i64 (Cm.bt q), .i .i64 (Cm.sq q), .i .i64 (Cm.gn q), .i .i64 0, .i .i64 0, .i .i64 0, .sv 1 (Cm.mn q) fun i x => CV.i .i64 (Cm.mf q i),
  .i .i64 (Cm.d q)]) [] [] 3 (fun Lf => True ∧ True ∧ True ∧ decide (Cm.k q = 8) = false ∧ True ∧ True ∧ True ∧ True ∧ True ∧ True ∧ (!decide (Cm.k q = 1)) = true ∧ True ∧ True
  ∧ decide (Cm.k q = 3) = false ∧ decide (Cm.k q = 4) = false ∧ decide (Cm.k q = 5) = false ∧ decide (Cm.k q = 6) = false ∧ decide (Cm.k q = 7) = true ∧ True ∧ True ∧ Lf)
  := by unfold VD VQ; kernel_rfl
theorem u2_vq (q : Cm) (h8 : decide (q.k = 8) = false) (h1 : decide (q.k = 1) = false) (h3 : decide (q.k = 3) = false) (h4 : decide (q.k = 4) = false) (h5 : decide (q.k = 5) =
  false) (h6 : decide (q.k = 6) = false) (h7 : decide (q.k = 7) = false) : VD Try.prog 51 [cmV q] [] (Orc.f (Orc.t (Orc.f (Orc.f (Orc.f (Orc.f (Orc.f Orc.z))))))) (.agg [.i
  .i64 (Cm.k q), .i .i64 (Cm.sv q), .i .i64 (Cm.bt q), .i .i64 (Cm.sq q), .i .i64 (Cm.gn q), .i .i64 0, .i .i64 0, .i .i64 0, .l0, .i .i64 (Cm.d q)]) [] [] 3 (fun Lf => True ∧
  True ∧ True ∧ decide (Cm.k q = 8) = false ∧ True ∧ True ∧ True ∧ True ∧ True ∧ True ∧ (!decide (Cm.k q = 1)) = true ∧ True ∧ True ∧ decide (Cm.k q = 3) = false ∧ decide (Cm.k
  q = 4) = false ∧ decide (Cm.k q = 5) = false ∧ decide (Cm.k q = 6) = false ∧ decide (Cm.k q = 7) = false ∧ Lf) := by unfold VD VQ; kernel_rfl
def usd (c : Cm) : Cm :=
  bif decide (c.k = 8) then ⟨c.k, 0, 0, 0, 0, 0, 0, 0, 0, fun _ => 0, c.d⟩ else bif decide (c.k = 1) then ⟨c.k, c.sv, c.bt, c.sq, 0, 0, 0, 0, 0, fun _ => 0, c.d⟩
  else bif decide (c.k = 3) then ⟨c.k, c.sv, c.bt, c.sq, c.gn, c.lk, c.md, 0, 0, fun _ => 0, c.d⟩ else bif decide (c.k = 4) then ⟨c.k, c.sv, c.bt, c.sq, c.gn, c.lk, 0, 0, 0, fun _ => 0, c.d⟩
  else bif decide (c.k = 5) then ⟨c.k, c.sv, c.bt, c.sq, c.gn, 0, 0, c.ot, 0, fun _ => 0, c.d⟩ else bif decide (c.k = 6) then ⟨c.k, c.sv, c.bt, c.sq, c.gn, 0, 0, c.ot, 0, fun _ => 0, c.d⟩
  else bif decide (c.k = 7) then ⟨c.k, c.sv, c.bt, c.sq, c.gn, 0, 0, 0, c.mn, c.mf, c.d⟩ else ⟨c.k, c.sv, c.bt, c.sq, c.gn, 0, 0, 0, 0, fun _ => 0, c.d⟩
theorem usd_con (q : Cm) : Con Try.prog 51 [cmV q] [] (cmV (usd q)) [] := by
  unfold usd
  cases h8 : decide (q.k = 8) with
  | true => exact (con_d (u8_vq q (by assumption)) (by repeat' first | exact trivial | assumption | exact rser_con _ | exact rcnt_con _ _ | exact boT (by assumption) | exact boF (by assumption) | exact boo (by assumption) | exact boz (by assumption) | exact rfl | (decide; done) | apply And.intro)).post (VW.agg ⟨.refl _, .refl _, .refl _, .refl _, .refl _, .refl _, .refl _, .refl _, VW.nil _ _, .refl _, trivial⟩) (OVL.refl _)
  | false =>
    cases h1 : decide (q.k = 1) with
    | true =>
      have e1 : q.k = 1 := of_decide_eq_true h1
      have h3 : decide (q.k = 3) = false := by rw [e1]; decide
      have h4 : decide (q.k = 4) = false := by rw [e1]; decide
      have h5 : decide (q.k = 5) = false := by rw [e1]; decide
      have h6 : decide (q.k = 6) = false := by rw [e1]; decide
      have h7 : decide (q.k = 7) = false := by rw [e1]; decide
      exact (con_d (u1_vq q (by assumption) (by assumption) (by assumption) (by assumption) (by assumption) (by assumption) (by assumption)) (by repeat' first | exact trivial | assumption | exact rser_con _ | exact rcnt_con _ _ | exact boT (by assumption) | exact boF (by assumption) | exact boo (by assumption) | exact boz (by assumption) | exact rfl | (decide; done) | apply And.intro)).post (VW.agg ⟨.refl _, .refl _, .refl _, .refl _, .refl _, .refl _, .refl _, .refl _, VW.nil _ _, .refl _, trivial⟩) (OVL.refl _)
    | false =>
      cases h3 : decide (q.k = 3) with
      | true => exact (con_d (u3_vq q (by assumption) (by assumption) (by assumption)) (by repeat' first | exact trivial | assumption | exact rser_con _ | exact rcnt_con _ _ | exact boT (by assumption) | exact boF (by assumption) | exact boo (by assumption) | exact boz (by assumption) | exact rfl | (decide; done) | apply And.intro)).post (VW.agg ⟨.refl _, .refl _, .refl _, .refl _, .refl _, .refl _, .refl _, .refl _, VW.nil _ _, .refl _, trivial⟩) (OVL.refl _)
      | false =>
        cases h4 : decide (q.k = 4) with
        | true => exact (con_d (u4_vq q (by assumption) (by assumption) (by assumption) (by assumption)) (by repeat' first | exact trivial | assumption | exact rser_con _ | exact rcnt_con _ _ | exact boT (by assumption) | exact boF (by assumption) | exact boo (by assumption) | exact boz (by assumption) | exact rfl | (decide; done) | apply And.intro)).post (VW.agg ⟨.refl _, .refl _, .refl _, .refl _, .refl _, .refl _, .refl _, .refl _, VW.nil _ _, .refl _, trivial⟩) (OVL.refl _)
        | false =>
          cases h5 : decide (q.k = 5) with
          | true => exact (con_d (u5_vq q (by assumption) (by assumption) (by assumption) (by assumption) (by assumption)) (by repeat' first | exact trivial | assumption | exact rser_con _ | exact rcnt_con _ _ | exact boT (by assumption) | exact boF (by assumption) | exact boo (by assumption) | exact boz (by assumption) | exact rfl | (decide; done) | apply And.intro)).post (VW.agg ⟨.refl _, .refl _, .refl _, .refl _, .refl _, .refl _, .refl _, .refl _, VW.nil _ _, .refl _, trivial⟩) (OVL.refl _)
          | false =>
            cases h6 : decide (q.k = 6) with
            | true => exact (con_d (u6_vq q (by assumption) (by assumption) (by assumption) (by assumption) (by assumption) (by assumption)) (by repeat' first | exact trivial | assumption | exact rser_con _ | exact rcnt_con _ _ | exact boT (by assumption) | exact boF (by assumption) | exact boo (by assumption) | exact boz (by assumption) | exact rfl | (decide; done) | apply And.intro)).post (VW.agg ⟨.refl _, .refl _, .refl _, .refl _, .refl _, .refl _, .refl _, .refl _, VW.nil _ _, .refl _, trivial⟩) (OVL.refl _)
            | false =>
              cases h7 : decide (q.k = 7) with
              | true => exact con_d (u7_vq q (by assumption) (by assumption) (by assumption) (by assumption) (by assumption) (by assumption) (by assumption)) (by repeat' first | exact trivial | assumption | exact rser_con _ | exact rcnt_con _ _ | exact boT (by assumption) | exact boF (by assumption) | exact boo (by assumption) | exact boz (by assumption) | exact rfl | (decide; done) | apply And.intro)
              | false =>
                exact (con_d (u2_vq q (by assumption) (by assumption) (by assumption) (by assumption) (by assumption) (by assumption) (by assumption)) (by repeat' first | exact trivial | assumption | exact rser_con _ | exact rcnt_con _ _ | exact boT (by assumption) | exact boF (by assumption) | exact boo (by assumption) | exact boz (by assumption) | exact rfl | (decide; done) | apply And.intro)).post (VW.agg ⟨.refl _, .refl _, .refl _, .refl _, .refl _, .refl _, .refl _, .refl _, VW.nil _ _, .refl _, trivial⟩) (OVL.refl _)
def memB (f : Nat → Int) : Nat → Nat → Bool
  | 0, _ => true
  | m + 1, i => wi (f i) 0 2 && memB f m (i + 1)
theorem mem_lp (q : Cm) (hq : q.mn ≤ 1152921504606846976) (x : XO) (l' : List (Nat × AV)) (b : Bool) (hx : (b = false ∧ x = .ret ∧ l' = [(2, .b false)]) ∨ (b = true ∧ x = .exit 0 ∧ l' = [(1, .p 0 0)])) (h : memB q.mf q.mn 0 = b) :
    LDoes Try.prog (loopAt Try.prog 41 0) 108 1 (mkT [(1, .p 0 0), (4, .i .i64 0)]) [some (cellsO 33 (cmL q))] x (mkT l') [some (cellsO 33 (cmL q))] := by
  refine loop_q (fun i : Nat => ([(1, .p 0 0), (4, .i .i64 (Int.ofNat i))], [some (cellsO 33 (cmL q))])) (fun i => q.mn - i) (fun i => i ≤ q.mn ∧ memB q.mf (q.mn - i) i = b) (fun _ => Nat.le_refl _) ?_ 0 ⟨Nat.zero_le _, h⟩
  rintro i ⟨hi, hp⟩
  rcases Nat.lt_or_ge i q.mn with hlt | e
  · have h : decide (Int.ofNat i < Int.ofNat q.mn) = true := decide_eq_true (by simp; omega)
    have bi : (0 : Int) ≤ Int.ofNat i ∧ Int.ofNat i < (↑q.mn : Int) := ⟨by simp, by simp; omega⟩
    have ri : rg (Int.ofNat i + 1) := ⟨by simp <;> omega, by simp <;> omega⟩
    rw [show q.mn - i = (q.mn - (i + 1)) + 1 by omega] at hp
    unfold memB at hp
    cases h1 : wi (q.mf i) 0 2 with
    | false =>
      rw [h1, Bool.false_and] at hp
      subst hp
      obtain ⟨_, rfl, rfl⟩ : (false = false ∧ x = .ret ∧ l' = [(2, .b false)]) := by rcases hx with c | c; exact c; exact absurd c.1 (by decide)
      exact rd_out (mR_lq wi q i (by assumption) (by assumption)) (by repeat' first | exact trivial | assumption | exact rser_con _ | exact rcnt_con _ _ | exact boT (by assumption) | exact boF (by assumption) | exact boo (by assumption) | exact boz (by assumption) | exact rfl | (decide; done) | apply And.intro) rfl rfl (.refl _) (.refl _)
    | true =>
      rw [h1, Bool.true_and] at hp
      exact rd_nrm (mN_lq wi q i (by assumption) (by assumption)) (by repeat' first | exact trivial | assumption | exact rser_con _ | exact rcnt_con _ _ | exact boT (by assumption) | exact boF (by assumption) | exact boo (by assumption) | exact boz (by assumption) | exact rfl | (decide; done) | apply And.intro) (i + 1) ⟨hlt, hp⟩ (by show q.mn - (i + 1) < q.mn - i; omega) rfl (.refl _) (.refl _)
  · obtain rfl : i = q.mn := by omega
    rw [show q.mn - q.mn = 0 by omega] at hp
    have hb : b = true := hp.symm
    subst hb
    obtain ⟨_, rfl, rfl⟩ : (true = true ∧ x = .exit 0 ∧ l' = [(1, .p 0 0)]) := by rcases hx with c | c; exact absurd c.1 (by decide); exact c
    have h : decide (Int.ofNat q.mn < Int.ofNat q.mn) = false := decide_eq_false (by simp)
    exact rd_out (mE_lq q q.mn (by assumption)) (by repeat' first | exact trivial | assumption | exact rser_con _ | exact rcnt_con _ _ | exact boT (by assumption) | exact boF (by assumption) | exact boo (by assumption) | exact boz (by assumption) | exact rfl | (decide; done) | apply And.intro) rfl rfl (.refl _) (.refl _)
def tlB (c : Cm) : Bool := bif decide (0 ≤ c.lk) then (bif decide (c.lk < 19) then wi c.ot 0 2 else false) else false
def rvcB (c : Cm) (S : Bool) : Bool :=
  bif decide (c.k < 1) then false else bif decide (8 < c.k) then false else bif S then (bif decide (c.d < 0) then false else bif decide (1048576 < c.d) then false else bif decide (c.k = 8) then decide (1 ≤ c.d) else
    bif wi c.sv 0 2 then (bif wi c.bt 1 1099511627776 then (bif wi c.sq 1 1099511627776 then (bif wi c.gn 0 1099511627776 then
      (bif decide (c.k = 7) then (bif memB c.mf c.mn 0 then (bif decide (1 ≤ Int.ofNat c.mn) then decide (Int.ofNat c.mn ≤ 3) else false) else false)
      else bif decide (c.k = 3) then (bif decide (c.md < 1) then false else bif decide (2 < c.md) then false else tlB c) else tlB c) else false) else false) else false) else false) else false
def sameB (u c : Cm) : Bool := (decide (Int.ofNat u.mn = Int.ofNat c.mn) && eqN u.mf c.mf u.mn 0) && (decide (u.k = c.k) && (decide (u.sv = c.sv) && (decide (u.bt = c.bt) && (decide (u.sq = c.sq) && (decide (u.gn = c.gn) && (decide (u.lk = c.lk) && (decide (u.md = c.md) && (decide (u.ot = c.ot) && (decide (u.d = c.d))))))))))
theorem rvc_con (q : Cm) (hq : q.mn ≤ 1152921504606846976) (hu : (usd q).mn ≤ 1152921504606846976) : Con Try.prog 41 [cmV q] [] (.b (rvcB q (sameB (usd q) q))) [] := by
  have us := usd_con q
  have sc : Con Try.prog 22 [cmV (usd q), cmV q] [] (.b (sameB (usd q) q)) [] := rscm_con _ _ _ _ _ _ _ _ _ _ hu _ q
  generalize sameB (usd q) q = B at sc ⊢
  generalize usd q = u at us sc
  unfold rvcB tlB
  cases a1 : decide (q.k < 1) with
  | true => exact con_d (v1_vq q (by assumption)) (by repeat' first | exact trivial | assumption | exact rser_con _ | exact rcnt_con _ _ | exact boT (by assumption) | exact boF (by assumption) | exact boo (by assumption) | exact boz (by assumption) | exact rfl | (decide; done) | apply And.intro)
  | false =>
    cases a2 : decide (8 < q.k) with
    | true => exact con_d (v2_vq q (by assumption) (by assumption)) (by repeat' first | exact trivial | assumption | exact rser_con _ | exact rcnt_con _ _ | exact boT (by assumption) | exact boF (by assumption) | exact boo (by assumption) | exact boz (by assumption) | exact rfl | (decide; done) | apply And.intro)
    | false =>
      cases a3 : B with
      | false => exact con_d (v3_vq B u q (by assumption) (by assumption) (by assumption)) (by repeat' first | exact trivial | assumption | exact rser_con _ | exact rcnt_con _ _ | exact boT (by assumption) | exact boF (by assumption) | exact boo (by assumption) | exact boz (by assumption) | exact rfl | (decide; done) | apply And.intro)
      | true =>
        cases a4 : decide (q.d < 0) with
        | true => exact con_d (v4_vq B u q (by assumption) (by assumption) (by assumption) (by assumption)) (by repeat' first | exact trivial | assumption | exact rser_con _ | exact rcnt_con _ _ | exact boT (by assumption) | exact boF (by assumption) | exact boo (by assumption) | exact boz (by assumption) | exact rfl | (decide; done) | apply And.intro)
        | false =>
          cases a5 : decide (1048576 < q.d) with
          | true => exact con_d (v5_vq B u q (by assumption) (by assumption) (by assumption) (by assumption) (by assumption)) (by repeat' first | exact trivial | assumption | exact rser_con _ | exact rcnt_con _ _ | exact boT (by assumption) | exact boF (by assumption) | exact boo (by assumption) | exact boz (by assumption) | exact rfl | (decide; done) | apply And.intro)
          | false =>
            cases a6 : decide (q.k = 8) with
            | true => exact con_d (v6_vq B u q (by assumption) (by assumption) (by assumption) (by assumption) (by assumption) (by assumption)) (by repeat' first | exact trivial | assumption | exact rser_con _ | exact rcnt_con _ _ | exact boT (by assumption) | exact boF (by assumption) | exact boo (by assumption) | exact boz (by assumption) | exact rfl | (decide; done) | apply And.intro)
            | false =>
              cases a7 : wi q.sv 0 2 with
              | false => exact con_d (v7_vq B u wi q (by assumption) (by assumption) (by assumption) (by assumption) (by assumption) (by assumption) (by assumption)) (by repeat' first | exact trivial | assumption | exact rser_con _ | exact rcnt_con _ _ | exact boT (by assumption) | exact boF (by assumption) | exact boo (by assumption) | exact boz (by assumption) | exact rfl | (decide; done) | apply And.intro)
              | true =>
                cases a8 : wi q.bt 1 1099511627776 with
                | false => exact con_d (v8_vq B u wi q (by assumption) (by assumption) (by assumption) (by assumption) (by assumption) (by assumption) (by assumption) (by assumption)) (by repeat' first | exact trivial | assumption | exact rser_con _ | exact rcnt_con _ _ | exact boT (by assumption) | exact boF (by assumption) | exact boo (by assumption) | exact boz (by assumption) | exact rfl | (decide; done) | apply And.intro)
                | true =>
                  cases a9 : wi q.sq 1 1099511627776 with
                  | false => exact con_d (v9_vq B u wi q (by assumption) (by assumption) (by assumption) (by assumption) (by assumption) (by assumption) (by assumption) (by assumption) (by assumption)) (by repeat' first | exact trivial | assumption | exact rser_con _ | exact rcnt_con _ _ | exact boT (by assumption) | exact boF (by assumption) | exact boo (by assumption) | exact boz (by assumption) | exact rfl | (decide; done) | apply And.intro)
                  | true =>
                    cases b1 : wi q.gn 0 1099511627776 with
                    | false => exact con_d (va_vq B u wi q (by assumption) (by assumption) (by assumption) (by assumption) (by assumption) (by assumption) (by assumption) (by assumption) (by assumption) (by assumption)) (by repeat' first | exact trivial | assumption | exact rser_con _ | exact rcnt_con _ _ | exact boT (by assumption) | exact boF (by assumption) | exact boo (by assumption) | exact boz (by assumption) | exact rfl | (decide; done) | apply And.intro)
                    | true =>
                      cases b2 : decide (q.k = 7) with
                      | true =>
                        cases hm : memB q.mf q.mn 0 with
                        | false =>
                          have lp := mem_lp q hq _ _ false (.inl ⟨rfl, rfl, rfl⟩) hm
                          exact con_d (vx_vq B u wi q (by assumption) (by assumption) (by assumption) (by assumption) (by assumption) (by assumption) (by assumption) (by assumption) (by assumption) (by assumption) (by assumption)) (by repeat' first | exact trivial | assumption | exact rser_con _ | exact rcnt_con _ _ | exact boT (by assumption) | exact boF (by assumption) | exact boo (by assumption) | exact boz (by assumption) | exact rfl | (decide; done) | apply And.intro)
                        | true =>
                          have lp := mem_lp q hq _ _ true (.inr ⟨rfl, rfl, rfl⟩) hm
                          cases c1 : decide (1 ≤ Int.ofNat q.mn) with
                          | false => exact con_d (vy_vq B u wi q (by assumption) (by assumption) (by assumption) (by assumption) (by assumption) (by assumption) (by assumption) (by assumption) (by assumption) (by assumption) (by assumption) (by assumption)) (by repeat' first | exact trivial | assumption | exact rser_con _ | exact rcnt_con _ _ | exact boT (by assumption) | exact boF (by assumption) | exact boo (by assumption) | exact boz (by assumption) | exact rfl | (decide; done) | apply And.intro)
                          | true => exact con_d (vz_vq B u wi q (by assumption) (by assumption) (by assumption) (by assumption) (by assumption) (by assumption) (by assumption) (by assumption) (by assumption) (by assumption) (by assumption) (by assumption)) (by repeat' first | exact trivial | assumption | exact rser_con _ | exact rcnt_con _ _ | exact boT (by assumption) | exact boF (by assumption) | exact boo (by assumption) | exact boz (by assumption) | exact rfl | (decide; done) | apply And.intro)
                      | false =>
                        cases b3 : decide (q.k = 3) with
                        | true =>
                          cases b4 : decide (q.md < 1) with
                          | true => exact con_d (vb_vq B u wi q (by assumption) (by assumption) (by assumption) (by assumption) (by assumption) (by assumption) (by assumption) (by assumption) (by assumption) (by assumption) (by assumption) (by assumption) (by assumption)) (by repeat' first | exact trivial | assumption | exact rser_con _ | exact rcnt_con _ _ | exact boT (by assumption) | exact boF (by assumption) | exact boo (by assumption) | exact boz (by assumption) | exact rfl | (decide; done) | apply And.intro)
                          | false =>
                            cases b5 : decide (2 < q.md) with
                            | true => exact con_d (vc_vq B u wi q (by assumption) (by assumption) (by assumption) (by assumption) (by assumption) (by assumption) (by assumption) (by assumption) (by assumption) (by assumption) (by assumption) (by assumption) (by assumption) (by assumption)) (by repeat' first | exact trivial | assumption | exact rser_con _ | exact rcnt_con _ _ | exact boT (by assumption) | exact boF (by assumption) | exact boo (by assumption) | exact boz (by assumption) | exact rfl | (decide; done) | apply And.intro)
                            | false =>
                              cases b6 : decide (0 ≤ q.lk) with
                              | false => exact con_d (vd_vq B u wi q (by assumption) (by assumption) (by assumption) (by assumption) (by assumption) (by assumption) (by assumption) (by assumption) (by assumption) (by assumption) (by assumption) (by assumption) (by assumption) (by assumption) (by assumption)) (by repeat' first | exact trivial | assumption | exact rser_con _ | exact rcnt_con _ _ | exact boT (by assumption) | exact boF (by assumption) | exact boo (by assumption) | exact boz (by assumption) | exact rfl | (decide; done) | apply And.intro)
                              | true =>
                                cases b7 : decide (q.lk < 19) with
                                | false => exact con_d (ve_vq B u wi q (by assumption) (by assumption) (by assumption) (by assumption) (by assumption) (by assumption) (by assumption) (by assumption) (by assumption) (by assumption) (by assumption) (by assumption) (by assumption) (by assumption) (by assumption) (by assumption)) (by repeat' first | exact trivial | assumption | exact rser_con _ | exact rcnt_con _ _ | exact boT (by assumption) | exact boF (by assumption) | exact boo (by assumption) | exact boz (by assumption) | exact rfl | (decide; done) | apply And.intro)
                                | true => exact con_d (vf_vq B u wi q (by assumption) (by assumption) (by assumption) (by assumption) (by assumption) (by assumption) (by assumption) (by assumption) (by assumption) (by assumption) (by assumption) (by assumption) (by assumption) (by assumption) (by assumption) (by assumption)) (by repeat' first | exact trivial | assumption | exact rser_con _ | exact rcnt_con _ _ | exact boT (by assumption) | exact boF (by assumption) | exact boo (by assumption) | exact boz (by assumption) | exact rfl | (decide; done) | apply And.intro)
                        | false =>
                          cases b6 : decide (0 ≤ q.lk) with
                          | false => exact con_d (vg_vq B u wi q (by assumption) (by assumption) (by assumption) (by assumption) (by assumption) (by assumption) (by assumption) (by assumption) (by assumption) (by assumption) (by assumption) (by assumption) (by assumption)) (by repeat' first | exact trivial | assumption | exact rser_con _ | exact rcnt_con _ _ | exact boT (by assumption) | exact boF (by assumption) | exact boo (by assumption) | exact boz (by assumption) | exact rfl | (decide; done) | apply And.intro)
                          | true =>
                            cases b7 : decide (q.lk < 19) with
                            | false => exact con_d (vh_vq B u wi q (by assumption) (by assumption) (by assumption) (by assumption) (by assumption) (by assumption) (by assumption) (by assumption) (by assumption) (by assumption) (by assumption) (by assumption) (by assumption) (by assumption)) (by repeat' first | exact trivial | assumption | exact rser_con _ | exact rcnt_con _ _ | exact boT (by assumption) | exact boF (by assumption) | exact boo (by assumption) | exact boz (by assumption) | exact rfl | (decide; done) | apply And.intro)
                            | true => exact con_d (vi_vq B u wi q (by assumption) (by assumption) (by assumption) (by assumption) (by assumption) (by assumption) (by assumption) (by assumption) (by assumption) (by assumption) (by assumption) (by assumption) (by assumption) (by assumption)) (by repeat' first | exact trivial | assumption | exact rser_con _ | exact rcnt_con _ _ | exact boT (by assumption) | exact boF (by assumption) | exact boo (by assumption) | exact boz (by assumption) | exact rfl | (decide; done) | apply And.intro)
theorem bif_f {c x : Bool} : (bif c then false else x) = (!c && x) := by cases c <;> rfl
theorem bif_t {c x : Bool} : (bif c then x else false) = (c && x) := by cases c <;> rfl
theorem memB_any (f : Nat → Int) : ∀ m i, memB f m i = !anyP (fun i => !wi (f i) 0 2) m i
  | 0, _ => rfl
  | m + 1, i => by
    unfold memB anyP
    rw [memB_any f m (i + 1), Bool.not_or, Bool.not_not]
theorem wi_b (n a b : Int) : (wi n a b = true) = (a ≤ n ∧ n ≤ b) := by
  unfold wi
  rw [Bool.and_eq_true, decide_eq_true_eq, decide_eq_true_eq]
theorem rvcB_eq (c : Cm) : rvcB c (sameB (usd c) c) = vcB c := by
  obtain ⟨k, sv, bt, sq, gn, lk, md, ot, mn, mf, d⟩ := c
  by_cases hk : 1 ≤ k ∧ k ≤ 8
  · rcases (by omega : k = 1 ∨ k = 2 ∨ k = 3 ∨ k = 4 ∨ k = 5 ∨ k = 6 ∨ k = 7 ∨ k = 8) with rfl | rfl | rfl | rfl | rfl | rfl | rfl | rfl
    case inr.inr.inr.inr.inr.inr.inl =>
      rw [Bool.eq_iff_iff]
      simp [rvcB, usd, sameB, vcB, kdB, fitB, shA, shT, tlB, bif_f, bif_t, eqN_self, memB_any, wi_b]
      generalize anyP (fun i => !wi (mf i) 0 2) mn 0 = P
      cases P <;> simp <;> omega
    all_goals
      rw [Bool.eq_iff_iff]
      rcases Nat.eq_zero_or_pos mn with rfl | hm
      · simp [rvcB, usd, sameB, vcB, kdB, fitB, shA, shT, tlB, bif_f, bif_t, eqN, anyP, wi_b]
        omega
      · have h0 : ¬ mn = 0 := by omega
        simp [rvcB, usd, sameB, vcB, kdB, fitB, shA, shT, tlB, bif_f, bif_t, eqN, anyP, wi_b]
        omega
  · have a : rvcB ⟨k, sv, bt, sq, gn, lk, md, ot, mn, mf, d⟩ (sameB (usd ⟨k, sv, bt, sq, gn, lk, md, ot, mn, mf, d⟩) ⟨k, sv, bt, sq, gn, lk, md, ot, mn, mf, d⟩) = false := by
      unfold rvcB
      by_cases h1 : k < 1
      · rw [decide_eq_true h1]; rfl
      · rw [decide_eq_false h1, decide_eq_true (show 8 < k by omega)]; rfl
    have b : vcB ⟨k, sv, bt, sq, gn, lk, md, ot, mn, mf, d⟩ = false := by
      unfold vcB kdB wi
      by_cases h1 : 1 ≤ k
      · rw [decide_eq_false (show ¬ k ≤ 8 by omega), Bool.and_false]; rfl
      · rw [decide_eq_false h1]; rfl
    rw [a, b]
theorem rvalidc_ok (c : Cm) (h : c.mn ≤ 1152921504606846976) : Con Try.prog 41 [cmV c] [] (.b (vcB c)) [] := by
  rw [← rvcB_eq]
  refine rvc_con c h ?_
  have z : (0 : Nat) ≤ 1152921504606846976 := Nat.zero_le _
  have key : ∀ (b : Bool) (x y : Cm), x.mn ≤ 1152921504606846976 → y.mn ≤ 1152921504606846976 → (bif b then x else y).mn ≤ 1152921504606846976 := fun b x y hx hy => by cases b; exact hy; exact hx
  unfold usd
  exact key _ _ _ z (key _ _ _ z (key _ _ _ z (key _ _ _ z (key _ _ _ z (key _ _ _ z (key _ _ _ h z))))))
def tt1 (x : Int) : Prop := (!!decide (x = x)) = true
def tt0 (x : Int) : Prop := (!decide (x = x)) = false
theorem tt1_ (x : Int) : tt1 x := by unfold tt1; simp
theorem tt0_ (x : Int) : tt0 x := by unfold tt0; simp
theorem siE_lq (n : Nat) (f : Nat → Int) (h1 : decide (Int.ofNat n < Int.ofNat n) = false) : LD Try.prog (loopAt Try.prog 42 0) 26 0 [(0, isv n f), (1, isv n f), (5, .i .i64
  (Int.ofNat n))] [] (Orc.f Orc.z) (.exit 0) [] [] [] 0 (fun Lf => decide (Int.ofNat n < Int.ofNat n) = false ∧ Lf) := by unfold LD LQ; kernel_rfl
theorem siR_lq (n : Nat) (f : Nat → Int) (i : Nat) (h1 : decide (Int.ofNat i < Int.ofNat n) = true) : LD Try.prog (loopAt Try.prog 42 0) 26 0 [(0, isv n f), (1, isv n f), (5,
  .i .i64 (Int.ofNat i))] [] (Orc.t (Orc.f Orc.z)) .nrm [] [(0, isv n f), (1, isv n f), (5, .i .i64 (Int.ofNat i + 1))] [] 0 (fun Lf => decide (Int.ofNat i < Int.ofNat n) =
  true ∧ (0 ≤ Int.ofNat i ∧ Int.ofNat i < ↑n) ∧ True ∧ (0 ≤ Int.ofNat i ∧ Int.ofNat i < ↑n) ∧ True ∧ tt0 (f i) ∧ rg (Int.ofNat i + 1) ∧ Lf) := by unfold LD LQ; kernel_rfl
theorem si_vq (n : Nat) (f : Nat → Int) : VD Try.prog 42 [isv n f, isv n f] [] (Orc.f (Orc.lop [] [0, 1, 5] 0 (XO.exit 0) [] [] Orc.z)) (.b true) [] [] 0 (fun Lf => tt0
  (Int.ofNat n) ∧ LDoes Try.prog (loopAt Try.prog 42 0) 26 0 (mkT [(0, isv n f), (1, isv n f), (5, .i .i64 0)]) [] (XO.exit 0) (mkT []) [] ∧ Lf)
  := by unfold VD VQ; kernel_rfl
theorem sc_vq (e : Int) (n m : Nat) (f g : Nat → Int) : VD Try.prog 39 [.agg [.i .i64 e, isv n f, isv m g], .agg [.i .i64 e, isv n f, isv m g]] [] (Orc.t (Orc.t (Orc.t (Orc.t
  (Orc.t (Orc.cal [] (.b true) [] (Orc.t (oc 5 (Orc.cal [] (.b true) [] (Orc.c Orc.z)))))))))) (.b true) [] [] 2 (fun Lf => True ∧ True ∧ decide (e = e) = true ∧ True ∧ decide
  (e = e) = true ∧ decide (e = e) = true ∧ True ∧ decide (e = e) = true ∧ decide (e = e) = true ∧ Con Try.prog 42 [isv n f, isv n f] [] (.b true) [] ∧ decide (e = e) = true ∧
  True ∧ True ∧ Con Try.prog 42 [isv m g, isv m g] [] (.b true) [] ∧ Lf) := by unfold VD VQ; kernel_rfl
theorem svE_lq (b : Mb) (h1 : decide (Int.ofNat b.dn < Int.ofNat b.dn) = false) : LD Try.prog (loopAt Try.prog 19 0) 61 2 [(2, .p 0 0), (3, .p 1 0), (5, .i .i64 (Int.ofNat
  b.dn))] [some (vwO b), some (vwO b)] (Orc.f Orc.z) (.exit 0) [0, 1] [] [some (vwO b), some (vwO b)] 2 (fun Lf => True ∧ decide (Int.ofNat (Mb.dn b) < Int.ofNat (Mb.dn b)) =
  false ∧ Lf) := by unfold LD LQ; kernel_rfl
theorem svR_lq (b : Mb) (i : Nat) (h1 : decide (Int.ofNat i < Int.ofNat b.dn) = true) (h2 : (!(decide (b.dA i = b.dA i) && (decide (b.dM i = b.dM i) && (decide (b.dW i = b.dW
  i) && true)))) = false) : LD Try.prog (loopAt Try.prog 19 0) 61 2 [(2, .p 0 0), (3, .p 1 0), (5, .i .i64 (Int.ofNat i))] [some (vwO b), some (vwO b)] (Orc.t (Orc.f Orc.z))
  .nrm [0, 1] [(2, .p 0 0), (3, .p 1 0), (5, .i .i64 (Int.ofNat i + 1))] [some (vwO b), some (vwO b)] 2 (fun Lf => True ∧ decide (Int.ofNat i < Int.ofNat (Mb.dn b)) = true ∧
  True ∧ (0 ≤ Int.ofNat i ∧ Int.ofNat i < ↑(Mb.dn b)) ∧ True ∧ True ∧ (0 ≤ Int.ofNat i ∧ Int.ofNat i < ↑(Mb.dn b)) ∧ True ∧ True ∧ (!(decide (Mb.dA b i = Mb.dA b i) && (decide
  (Mb.dM b i = Mb.dM b i) && (decide (Mb.dW b i = Mb.dW b i) && true)))) = false ∧ rg (Int.ofNat i + 1) ∧ Lf) := by unfold LD LQ; kernel_rfl
theorem sv_vq (b : Mb) : VD Try.prog 19 [.agg (vwL b), .agg (vwL b)] [] (Orc.t (Orc.t (Orc.t (Orc.t (Orc.t (Orc.f (Orc.t (Orc.t (Orc.t (Orc.t (Orc.t (Orc.cal [] (.b true) []
  (Orc.t (Orc.f (oc 5 (Orc.cal [] (.b true) [] (oc 10 (Orc.f (Orc.lop [0, 1] [2, 3, 5] 2 (XO.exit 0) [] [some (vwO b), some (vwO b)] Orc.z))))))))))))))))))) (.b true) [] [] 2
  (fun Lf => True ∧ True ∧ tt1 (Mb.x b 6) ∧ True ∧ tt1 (Mb.x b 6) ∧ tt1 (Mb.x b 6) ∧ True ∧ tt1 (Mb.x b 6) ∧ tt1 (Mb.x b 6) ∧ tt0 (Mb.x b 6) ∧ tt1 (Mb.x b 7) ∧ True ∧ tt1 (Mb.x
  b 7) ∧ tt1 (Mb.x b 7) ∧ True ∧ tt1 (Mb.x b 7) ∧ tt1 (Mb.x b 7) ∧ Con Try.prog 39 [.agg [.i .i64 (Mb.x b 8), isv (Mb.mn b) (Mb.mf b), isv (Mb.sn b) (Mb.sf b)], .agg [.i .i64
  (Mb.x b 8), isv (Mb.mn b) (Mb.mf b), isv (Mb.sn b) (Mb.sf b)]] [] (.b true) [] ∧ tt1 (Mb.x b 7) ∧ True ∧ tt0 (Mb.x b 7) ∧ True ∧ True ∧ Con Try.prog 40 [svN (Mb.hn b) (Mb.hA
  b) (Mb.hM b) (Mb.hW b), svN (Mb.hn b) (Mb.hA b) (Mb.hM b) (Mb.hW b)] [] (.b true) [] ∧ True ∧ True ∧ True ∧ tt0 (Int.ofNat (Mb.dn b)) ∧ LDoes Try.prog (loopAt Try.prog 19
  0) 61 2 (mkT [(2, .p 0 0), (3, .p 1 0), (5, .i .i64 0)]) [some (vwO b), some (vwO b)] (XO.exit 0) (mkT []) [some (vwO b), some (vwO b)] ∧ Lf) := by unfold VD VQ; kernel_rfl
theorem si_lp (n : Nat) (hn : n ≤ 1152921504606846976) (f : Nat → Int) : LDoes Try.prog (loopAt Try.prog 42 0) 26 0 (mkT [(0, isv n f), (1, isv n f), (5, .i .i64 0)]) [] (.exit 0) (mkT []) [] := by
  refine loop_q (fun i : Nat => ([(0, isv n f), (1, isv n f), (5, .i .i64 (Int.ofNat i))], [])) (fun i => n - i) (fun i => i ≤ n) (fun _ => Nat.zero_le _) ?_ 0 (Nat.zero_le _)
  intro i hi
  rcases Nat.lt_or_ge i n with hlt | q
  · have h1 : decide (Int.ofNat i < Int.ofNat n) = true := decide_eq_true (by simp; omega)
    have bi : (0 : Int) ≤ Int.ofNat i ∧ Int.ofNat i < (↑n : Int) := ⟨by simp, by simp; omega⟩
    have ri : rg (Int.ofNat i + 1) := ⟨by simp <;> omega, by simp <;> omega⟩
    exact rd_nrm (siR_lq n f i h1) (by repeat' first | exact trivial | exact tt1_ _ | exact tt0_ _ | assumption | exact bi | exact ri | exact rfl | (simp; done) | apply And.intro) (i + 1) hlt (by show n - (i + 1) < n - i; omega) rfl (.refl _) (.refl _)
  · obtain rfl : i = n := Nat.le_antisymm hi q
    exact rd_out (siE_lq i f (decide_eq_false (by simp))) (by repeat' first | exact trivial | exact tt1_ _ | exact tt0_ _ | (simp; done) | exact rfl | apply And.intro) rfl rfl (.refl _) (.refl _)
theorem si_con (n : Nat) (hn : n ≤ 1152921504606846976) (f : Nat → Int) : Con Try.prog 42 [isv n f, isv n f] [] (.b true) [] :=
  con_d (si_vq ..) (by repeat' first | exact trivial | exact tt1_ _ | exact tt0_ _ | exact si_lp n hn f | (simp; done) | exact rfl | apply And.intro)
theorem sc_con (e : Int) (n m : Nat) (f g : Nat → Int) (hn : n ≤ 1152921504606846976) (hm : m ≤ 1152921504606846976) : Con Try.prog 39 [.agg [.i .i64 e, isv n f, isv m g], .agg [.i .i64 e, isv n f, isv m g]] [] (.b true) [] :=
  con_d (sc_vq ..) (by repeat' first | exact trivial | exact tt1_ _ | exact tt0_ _ | exact si_con _ hn _ | exact si_con _ hm _ | (simp; done) | exact rfl | apply And.intro)
theorem sv_lp (b : Mb) (hn : b.dn ≤ 1152921504606846976) : LDoes Try.prog (loopAt Try.prog 19 0) 61 2 (mkT [(2, .p 0 0), (3, .p 1 0), (5, .i .i64 0)]) [some (vwO b), some (vwO b)] (.exit 0) (mkT []) [some (vwO b), some (vwO b)] := by
  refine loop_q (fun i : Nat => ([(2, .p 0 0), (3, .p 1 0), (5, .i .i64 (Int.ofNat i))], [some (vwO b), some (vwO b)])) (fun i => b.dn - i) (fun i => i ≤ b.dn) (fun _ => Nat.le_refl _) ?_ 0 (Nat.zero_le _)
  intro i hi
  rcases Nat.lt_or_ge i b.dn with hlt | q
  · have h1 : decide (Int.ofNat i < Int.ofNat b.dn) = true := decide_eq_true (by simp; omega)
    have bi : (0 : Int) ≤ Int.ofNat i ∧ Int.ofNat i < (↑b.dn : Int) := ⟨by simp, by simp; omega⟩
    have ri : rg (Int.ofNat i + 1) := ⟨by simp <;> omega, by simp <;> omega⟩
    have h2 : (!(decide (b.dA i = b.dA i) && (decide (b.dM i = b.dM i) && (decide (b.dW i = b.dW i) && true)))) = false := by simp
    exact rd_nrm (svR_lq b i h1 h2) (by repeat' first | exact trivial | exact tt1_ _ | exact tt0_ _ | assumption | exact bi | exact ri | exact rfl | (simp; done) | apply And.intro) (i + 1) hlt (by show b.dn - (i + 1) < b.dn - i; omega) rfl (.refl _) (.refl _)
  · have e : i = b.dn := Nat.le_antisymm hi q
    subst e
    exact rd_out (svE_lq b (decide_eq_false (by simp))) (by repeat' first | exact trivial | exact tt1_ _ | exact tt0_ _ | (simp; done) | exact rfl | apply And.intro) rfl rfl (.refl _) (.refl _)
theorem shN_con (n : Nat) (A M W : Nat → Int) (hn : n ≤ 1152921504606846976) : Con Try.prog 40 [svN n A M W, svN n A M W] [] (.b true) [] := con_pureX (sh_vc _ _ _ _ _) rfl ⟨by simp, sh_lp _ _ _ _ hn, rfl⟩
theorem sv_con (b : Mb) (h : b.mn ≤ 17592186044416 ∧ b.sn ≤ 17592186044416 ∧ b.hn ≤ 5864062014805 ∧ b.dn ≤ 5864062014805) : Con Try.prog 19 [.agg (vwL b), .agg (vwL b)] [] (.b true) [] :=
  con_d (sv_vq ..) (by repeat' first | exact trivial | exact tt1_ _ | exact tt0_ _ | exact sc_con _ _ _ _ _ (by omega) (by omega) | exact shN_con _ _ _ _ (by omega) | exact sv_lp b (by omega) | (simp; done) | exact rfl | apply And.intro)
end Go.Proofs.Sv
