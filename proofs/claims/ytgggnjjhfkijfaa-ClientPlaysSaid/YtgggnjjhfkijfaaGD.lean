/- Runs over unknown values, told by the kernel: part GD. -/
import Derived.Test.YtgggnjjhfkijfaaGC
set_option linter.unusedSimpArgs false
set_option linter.unusedVariables false
set_option maxRecDepth 20000
namespace Go.Proofs.Ck
open Go Go.Sim Go.Proofs Go.Proofs.Lk Go.Proofs.Sv Go.Proofs.Ytgggnjjhfkijfaa
noncomputable abbrev clZL : List AV := [.i .i64 0, .i .i64 0, .i .i64 0, .i .i64 0, .i .i64 0, .b false, .i .i64 0, .i .i64 0, .i .i64 0, .i .i64 0, .i .i64 0, .i .i64 0, .i .i64 0, .i .i64 0, .l0, .i .i64 0, .i .i64 0, .i .i64 0]
def rtS (y : Cl) (t : Int) : Cl := { y with q := Int.tmod (y.q + 1) y.p, l := t }
def rkS (y : Cl) (m : Mg) : Cl := { y with q := m.fr, o := false, c := cm0 }
noncomputable abbrev rkL (x : Cl) (m : Mg) : List AV := [.i .i64 x.s, .i .i64 x.b, .i .i64 x.p, .i .i64 m.fr, .i .i64 x.n, .b false, .i .i64 0, .i .i64 0, .i .i64 0, .i .i64 0, .i .i64 0, .i .i64 0, .i .i64 0, .i .i64 0, .l0, .i .i64 0, .i .i64 x.f, .i .i64 x.l]
def frP2 : Prop := ((True ∧ (True ∧ (True ∧ (True ∧ (True ∧ (True ∧ (True ∧ (True ∧ (True ∧ (True ∧ (True ∧ (True ∧ (True ∧ (True ∧ (True ∧ (True ∧ (True ∧ (True ∧ True)))))))))))))))))) ∧ (((0 : Nat) + 1 * 25 ≤ 25) ∧ (True ∧ True))) ∧ True
theorem rn0_vq (s b p : Int) (h0 : decide (s < 0) = true) : VD Try.prog 15 [.i .i64 s, .i .i64 b, .i .i64 p] [] (Orc.f (Orc.f (Orc.t (oc 13 Orc.z)))) (.tup [.agg [.i .i64 0, .i
  .i64 0, .i .i64 0, .i .i64 0, .i .i64 0, .b false, .i .i64 0, .i .i64 0, .i .i64 0, .i .i64 0, .i .i64 0, .i .i64 0, .i .i64 0, .i .i64 0, .l0, .i .i64 0, .i .i64 0, .i .i64
  0], .i .i64 2]) [] [] 1 (fun Lf => (!decide (s < 0)) = false ∧ (!decide (s < 0)) = false ∧ decide (s < 0) = true ∧ Lf) := by unfold VD VQ; kernel_rfl
theorem rn1_vq (s b p : Int) (h0 : decide (s < 0) = false) (h1 : decide (2 < s) = true) : VD Try.prog 15 [.i .i64 s, .i .i64 b, .i .i64 p] [] (Orc.t (Orc.t (Orc.f (Orc.f (Orc.f
  (Orc.t (oc 10 Orc.z))))))) (.tup [.agg [.i .i64 0, .i .i64 0, .i .i64 0, .i .i64 0, .i .i64 0, .b false, .i .i64 0, .i .i64 0, .i .i64 0, .i .i64 0, .i .i64 0, .i .i64 0, .i
  .i64 0, .i .i64 0, .l0, .i .i64 0, .i .i64 0, .i .i64 0], .i .i64 2]) [] [] 1 (fun Lf => (!decide (s < 0)) = true ∧ (!decide (s < 0)) = true ∧ decide (s < 0) = false ∧
  (!decide (2 < s)) = false ∧ (!decide (2 < s)) = false ∧ decide (2 < s) = true ∧ Lf) := by unfold VD VQ; kernel_rfl
theorem rn2_vq (s b p : Int) (h0 : decide (s < 0) = false) (h1 : decide (2 < s) = false) (h2 : decide (b < 1) = true) : VD Try.prog 15 [.i .i64 s, .i .i64 b, .i .i64 p] []
  (Orc.t (Orc.t (Orc.f (Orc.t (Orc.t (Orc.f (Orc.f (Orc.f (Orc.t (oc 7 Orc.z)))))))))) (.tup [.agg [.i .i64 0, .i .i64 0, .i .i64 0, .i .i64 0, .i .i64 0, .b false, .i .i64 0,
  .i .i64 0, .i .i64 0, .i .i64 0, .i .i64 0, .i .i64 0, .i .i64 0, .i .i64 0, .l0, .i .i64 0, .i .i64 0, .i .i64 0], .i .i64 2]) [] [] 1 (fun Lf => (!decide (s < 0)) = true ∧
  (!decide (s < 0)) = true ∧ decide (s < 0) = false ∧ (!decide (2 < s)) = true ∧ (!decide (2 < s)) = true ∧ decide (2 < s) = false ∧ (!decide (b < 1)) = false ∧ (!decide (b <
  1)) = false ∧ decide (b < 1) = true ∧ Lf) := by unfold VD VQ; kernel_rfl
theorem rn3_vq (s b p : Int) (h0 : decide (s < 0) = false) (h1 : decide (2 < s) = false) (h2 : decide (b < 1) = false) (h3 : decide (1099511627776 < b) = true) : VD Try.prog 15
  [.i .i64 s, .i .i64 b, .i .i64 p] [] (Orc.t (Orc.t (Orc.f (Orc.t (Orc.t (Orc.f (Orc.t (Orc.t (Orc.f (Orc.f (Orc.f (Orc.t (oc 4 Orc.z))))))))))))) (.tup [.agg [.i .i64 0, .i
  .i64 0, .i .i64 0, .i .i64 0, .i .i64 0, .b false, .i .i64 0, .i .i64 0, .i .i64 0, .i .i64 0, .i .i64 0, .i .i64 0, .i .i64 0, .i .i64 0, .l0, .i .i64 0, .i .i64 0, .i .i64
  0], .i .i64 2]) [] [] 1 (fun Lf => (!decide (s < 0)) = true ∧ (!decide (s < 0)) = true ∧ decide (s < 0) = false ∧ (!decide (2 < s)) = true ∧ (!decide (2 < s)) = true ∧ decide
  (2 < s) = false ∧ (!decide (b < 1)) = true ∧ (!decide (b < 1)) = true ∧ decide (b < 1) = false ∧ (!decide (1099511627776 < b)) = false ∧ (!decide (1099511627776 < b)) = false
  ∧ decide (1099511627776 < b) = true ∧ Lf) := by unfold VD VQ; kernel_rfl
theorem rn4_vq (s b p : Int) (h0 : decide (s < 0) = false) (h1 : decide (2 < s) = false) (h2 : decide (b < 1) = false) (h3 : decide (1099511627776 < b) = false) (h4 : decide (p
  < 1) = true) : VD Try.prog 15 [.i .i64 s, .i .i64 b, .i .i64 p] [] (Orc.t (Orc.t (Orc.f (Orc.t (Orc.t (Orc.f (Orc.t (Orc.t (Orc.f (Orc.t (Orc.t (Orc.f (Orc.f (Orc.f (Orc.t
  (Orc.c Orc.z)))))))))))))))) (.tup [.agg [.i .i64 0, .i .i64 0, .i .i64 0, .i .i64 0, .i .i64 0, .b false, .i .i64 0, .i .i64 0, .i .i64 0, .i .i64 0, .i .i64 0, .i .i64 0,
  .i .i64 0, .i .i64 0, .l0, .i .i64 0, .i .i64 0, .i .i64 0], .i .i64 2]) [] [] 1 (fun Lf => (!decide (s < 0)) = true ∧ (!decide (s < 0)) = true ∧ decide (s < 0) = false ∧
  (!decide (2 < s)) = true ∧ (!decide (2 < s)) = true ∧ decide (2 < s) = false ∧ (!decide (b < 1)) = true ∧ (!decide (b < 1)) = true ∧ decide (b < 1) = false ∧ (!decide
  (1099511627776 < b)) = true ∧ (!decide (1099511627776 < b)) = true ∧ decide (1099511627776 < b) = false ∧ (!decide (p < 1)) = false ∧ (!decide (p < 1)) = false ∧ decide (p <
  1) = true ∧ Lf) := by unfold VD VQ; kernel_rfl
theorem rn5_vq (s b p : Int) (h0 : decide (s < 0) = false) (h1 : decide (2 < s) = false) (h2 : decide (b < 1) = false) (h3 : decide (1099511627776 < b) = false) (h4 : decide (p
  < 1) = false) (h5 : decide (3 < p) = true) : VD Try.prog 15 [.i .i64 s, .i .i64 b, .i .i64 p] [] (Orc.t (Orc.t (Orc.f (Orc.t (Orc.t (Orc.f (Orc.t (Orc.t (Orc.f (Orc.t (Orc.t
  (Orc.f (Orc.t (Orc.t (Orc.f (Orc.t Orc.z)))))))))))))))) (.tup [.agg [.i .i64 0, .i .i64 0, .i .i64 0, .i .i64 0, .i .i64 0, .b false, .i .i64 0, .i .i64 0, .i .i64 0, .i
  .i64 0, .i .i64 0, .i .i64 0, .i .i64 0, .i .i64 0, .l0, .i .i64 0, .i .i64 0, .i .i64 0], .i .i64 2]) [] [] 1 (fun Lf => (!decide (s < 0)) = true ∧ (!decide (s < 0)) = true
  ∧ decide (s < 0) = false ∧ (!decide (2 < s)) = true ∧ (!decide (2 < s)) = true ∧ decide (2 < s) = false ∧ (!decide (b < 1)) = true ∧ (!decide (b < 1)) = true ∧ decide (b < 1)
  = false ∧ (!decide (1099511627776 < b)) = true ∧ (!decide (1099511627776 < b)) = true ∧ decide (1099511627776 < b) = false ∧ (!decide (p < 1)) = true ∧ (!decide (p < 1)) =
  true ∧ decide (p < 1) = false ∧ decide (3 < p) = true ∧ Lf) := by unfold VD VQ; kernel_rfl
theorem rn6_vq (s b p : Int) (h0 : decide (s < 0) = false) (h1 : decide (2 < s) = false) (h2 : decide (b < 1) = false) (h3 : decide (1099511627776 < b) = false) (h4 : decide (p
  < 1) = false) (h5 : decide (3 < p) = false) : VD Try.prog 15 [.i .i64 s, .i .i64 b, .i .i64 p] [] (Orc.t (Orc.t (Orc.f (Orc.t (Orc.t (Orc.f (Orc.t (Orc.t (Orc.f (Orc.t (Orc.t
  (Orc.f (Orc.t (Orc.t (Orc.f (Orc.f Orc.z)))))))))))))))) (.tup [.agg (nwL s b p), .i .i64 0]) [] [] 1 (fun Lf => (!decide (s < 0)) = true ∧ (!decide (s < 0)) = true ∧ decide
  (s < 0) = false ∧ (!decide (2 < s)) = true ∧ (!decide (2 < s)) = true ∧ decide (2 < s) = false ∧ (!decide (b < 1)) = true ∧ (!decide (b < 1)) = true ∧ decide (b < 1) = false
  ∧ (!decide (1099511627776 < b)) = true ∧ (!decide (1099511627776 < b)) = true ∧ decide (1099511627776 < b) = false ∧ (!decide (p < 1)) = true ∧ (!decide (p < 1)) = true ∧
  decide (p < 1) = false ∧ decide (3 < p) = false ∧ Lf) := by unfold VD VQ; kernel_rfl
theorem rt0_vq (y : Cl) (t : Int) : VD Try.prog 16 [.agg (clL y), .i .i64 t] [] (Orc.cal [] (.b false) [] (Orc.c Orc.z)) (.tup [.agg (clL y), .l0, .i .i64 2]) [] [] 2 (fun Lf
  => Con Try.prog 36 [.i .i64 t] [] (.b false) [] ∧ True ∧ Lf) := by unfold VD VQ; kernel_rfl
theorem rt1_vq (y : Cl) (t : Int) (h : y.o = false) : VD Try.prog 16 [.agg (clL y), .i .i64 t] [] (Orc.cal [] (.b true) [] (Orc.c (Orc.f (Orc.f (Orc.f (Orc.f (Orc.f (Orc.t
  (Orc.c Orc.z))))))))) (.tup [.agg (clL y), .l0, .i .i64 0]) [] [] 2 (fun Lf => Con Try.prog 36 [.i .i64 t] [] (.b true) [] ∧ True ∧ True ∧ True ∧ (!!Cl.o y) = false ∧ (!!Cl.o
  y) = false ∧ (!!Cl.o y) = false ∧ (!!Cl.o y) = false ∧ (!!Cl.o y) = false ∧ (!Cl.o y) = true ∧ Lf) := by unfold VD VQ; kernel_rfl
theorem rt2_vq (y : Cl) (t : Int) (h : y.o = true) (h2 : decide (t < y.l + 6) = true) : VD Try.prog 16 [.agg (clL y), .i .i64 t] [] (Orc.cal [] (.b true) [] (Orc.c (Orc.t
  (Orc.t (Orc.t (Orc.t (Orc.t (Orc.f (Orc.t Orc.z))))))))) (.tup [.agg (clL y), .l0, .i .i64 0]) [] [] 2 (fun Lf => Con Try.prog 36 [.i .i64 t] [] (.b true) [] ∧ True ∧ True ∧
  True ∧ (!!Cl.o y) = true ∧ (!!Cl.o y) = true ∧ True ∧ (!!Cl.o y) = true ∧ (!!Cl.o y) = true ∧ rg (Cl.l y + 6) ∧ (!!Cl.o y) = true ∧ (!Cl.o y) = false ∧ decide (t < Cl.l y +
  6) = true ∧ Lf) := by unfold VD VQ; kernel_rfl
theorem rt3_fq (y : Cl) (t : Int) (h : y.o = true) (h2 : decide (t < y.l + 6) = false) : VF Try.prog 16 [.agg (clL y), .i .i64 t] [] (Orc.cal [] (.b true) [] (Orc.c (Orc.t
  (Orc.t (Orc.t (Orc.t (Orc.t (Orc.f (Orc.f (Orc.inl Orc.z)))))))))) (.tup [.agg (clL (rtS y t)), .sv 25 1 (listF 25 (rqL y.s (Int.tmod (y.q + 1) y.p) y.c fun _ _ => .p0) 1),
  .i .i64 0]) [] [3] [] (frP2) 4 (fun Lf => Con Try.prog 36 [.i .i64 t] [] (.b true) [] ∧ True ∧ True ∧ True ∧ (!!Cl.o y) = true ∧ (!!Cl.o y) = true ∧ True ∧ (!!Cl.o y) = true
  ∧ (!!Cl.o y) = true ∧ rg (Cl.l y + 6) ∧ (!!Cl.o y) = true ∧ (!Cl.o y) = false ∧ decide (t < Cl.l y + 6) = false ∧ True ∧ rg (Cl.q y + 1) ∧ True ∧ Cl.p y ≠ 0 ∧ True ∧ True ∧
  True ∧ rg (8 + Cl.s y) ∧ True ∧ True ∧ Lf) := by unfold VF; kernel_rfl
theorem rk0_vq (y : Cl) (m : Mg) (h0 : decide (m.k = 9) = false) : VD Try.prog 18 [.agg (clL y), mgV m] [] (Orc.f (Orc.f (Orc.f (Orc.f (Orc.f (Orc.f (Orc.t (oc 34 Orc.z))))))))
  (.tup [.agg (clL y), .agg [.i .i64 0, .i .i64 0, .i .i64 0, .l0, .l0, .l0, .l0], .i .i64 0, .b false]) [] [] 5 (fun Lf => True ∧ True ∧ (!!decide (Mg.k m = 9)) = false ∧
  (!!decide (Mg.k m = 9)) = false ∧ (!!decide (Mg.k m = 9)) = false ∧ (!!decide (Mg.k m = 9)) = false ∧ (!!decide (Mg.k m = 9)) = false ∧ (!!decide (Mg.k m = 9)) = false ∧
  (!decide (Mg.k m = 9)) = true ∧ Lf) := by unfold VD VQ; kernel_rfl
theorem rk1_vq (y : Cl) (m : Mg) (h0 : decide (m.k = 9) = true) (h1 : decide (m.to = 8 + y.s) = false) : VD Try.prog 18 [.agg (clL y), mgV m] [] (Orc.t (Orc.t (Orc.t (Orc.t
  (Orc.t (Orc.t (Orc.f (Orc.f (Orc.f (Orc.f (Orc.t (oc 30 Orc.z)))))))))))) (.tup [.agg (clL y), .agg [.i .i64 0, .i .i64 0, .i .i64 0, .l0, .l0, .l0, .l0], .i .i64 0, .b
  false]) [] [] 5 (fun Lf => True ∧ True ∧ (!!decide (Mg.k m = 9)) = true ∧ True ∧ (!!decide (Mg.k m = 9)) = true ∧ (!!decide (Mg.k m = 9)) = true ∧ True ∧ (!!decide (Mg.k m =
  9)) = true ∧ (!!decide (Mg.k m = 9)) = true ∧ rg (8 + Cl.s y) ∧ (!!decide (Mg.k m = 9)) = true ∧ (!decide (Mg.k m = 9)) = false ∧ (!!decide (Mg.to m = 8 + Cl.s y)) = false ∧
  (!!decide (Mg.to m = 8 + Cl.s y)) = false ∧ (!!decide (Mg.to m = 8 + Cl.s y)) = false ∧ (!decide (Mg.to m = 8 + Cl.s y)) = true ∧ Lf) := by unfold VD VQ; kernel_rfl
theorem rk2_vq (y : Cl) (m : Mg) (h0 : decide (m.k = 9) = true) (h1 : decide (m.to = 8 + y.s) = true) (h2 : decide (m.fr < 0) = true) : VD Try.prog 18 [.agg (clL y), mgV m] []
  (Orc.t (Orc.t (Orc.t (Orc.t (Orc.t (Orc.t (Orc.f (Orc.t (Orc.t (Orc.t (Orc.f (Orc.f (Orc.f (Orc.f (Orc.f (Orc.f (Orc.t (oc 24 Orc.z)))))))))))))))))) (.tup [.agg (clL y),
  .agg [.i .i64 0, .i .i64 0, .i .i64 0, .l0, .l0, .l0, .l0], .i .i64 0, .b false]) [] [] 5 (fun Lf => True ∧ True ∧ (!!decide (Mg.k m = 9)) = true ∧ True ∧ (!!decide (Mg.k m =
  9)) = true ∧ (!!decide (Mg.k m = 9)) = true ∧ True ∧ (!!decide (Mg.k m = 9)) = true ∧ (!!decide (Mg.k m = 9)) = true ∧ rg (8 + Cl.s y) ∧ (!!decide (Mg.k m = 9)) = true ∧
  (!decide (Mg.k m = 9)) = false ∧ (!!decide (Mg.to m = 8 + Cl.s y)) = true ∧ True ∧ (!!decide (Mg.to m = 8 + Cl.s y)) = true ∧ (!!decide (Mg.to m = 8 + Cl.s y)) = true ∧
  (!decide (Mg.to m = 8 + Cl.s y)) = false ∧ (!decide (Mg.fr m < 0)) = false ∧ (!decide (Mg.fr m < 0)) = false ∧ (!decide (Mg.fr m < 0)) = false ∧ (!decide (Mg.fr m < 0)) =
  false ∧ (!decide (Mg.fr m < 0)) = false ∧ decide (Mg.fr m < 0) = true ∧ Lf) := by unfold VD VQ; kernel_rfl
theorem rk3_vq (y : Cl) (m : Mg) (h0 : decide (m.k = 9) = true) (h1 : decide (m.to = 8 + y.s) = true) (h2 : decide (m.fr < 0) = false) (h3 : decide (y.p ≤ m.fr) = true) : VD
  Try.prog 18 [.agg (clL y), mgV m] [] (Orc.t (Orc.t (Orc.t (Orc.t (Orc.t (Orc.t (Orc.f (Orc.t (Orc.t (Orc.t (Orc.f (Orc.t (Orc.t (Orc.t (Orc.t (Orc.t (Orc.f (Orc.f (Orc.f
  (Orc.f (Orc.t (oc 20 Orc.z)))))))))))))))))))))) (.tup [.agg (clL y), .agg [.i .i64 0, .i .i64 0, .i .i64 0, .l0, .l0, .l0, .l0], .i .i64 0, .b false]) [] [] 5 (fun Lf =>
  True ∧ True ∧ (!!decide (Mg.k m = 9)) = true ∧ True ∧ (!!decide (Mg.k m = 9)) = true ∧ (!!decide (Mg.k m = 9)) = true ∧ True ∧ (!!decide (Mg.k m = 9)) = true ∧ (!!decide
  (Mg.k m = 9)) = true ∧ rg (8 + Cl.s y) ∧ (!!decide (Mg.k m = 9)) = true ∧ (!decide (Mg.k m = 9)) = false ∧ (!!decide (Mg.to m = 8 + Cl.s y)) = true ∧ True ∧ (!!decide (Mg.to
  m = 8 + Cl.s y)) = true ∧ (!!decide (Mg.to m = 8 + Cl.s y)) = true ∧ (!decide (Mg.to m = 8 + Cl.s y)) = false ∧ (!decide (Mg.fr m < 0)) = true ∧ True ∧ (!decide (Mg.fr m <
  0)) = true ∧ (!decide (Mg.fr m < 0)) = true ∧ True ∧ (!decide (Mg.fr m < 0)) = true ∧ (!decide (Mg.fr m < 0)) = true ∧ decide (Mg.fr m < 0) = false ∧ (!decide (Cl.p y ≤ Mg.fr
  m)) = false ∧ (!decide (Cl.p y ≤ Mg.fr m)) = false ∧ (!decide (Cl.p y ≤ Mg.fr m)) = false ∧ decide (Cl.p y ≤ Mg.fr m) = true ∧ Lf) := by unfold VD VQ; kernel_rfl
theorem rk4_vq (y : Cl) (m : Mg) (h0 : decide (m.k = 9) = true) (h1 : decide (m.to = 8 + y.s) = true) (h2 : decide (m.fr < 0) = false) (h3 : decide (y.p ≤ m.fr) = false) (h4 :
  y.o = false) : VD Try.prog 18 [.agg (clL y), mgV m] [] (Orc.t (Orc.t (Orc.t (Orc.t (Orc.t (Orc.t (Orc.f (Orc.t (Orc.t (Orc.t (Orc.f (Orc.t (Orc.t (Orc.t (Orc.t (Orc.t (Orc.f
  (Orc.t (Orc.t (Orc.t (Orc.f (Orc.f (Orc.f (Orc.f (Orc.f (Orc.f (Orc.t (oc 14 Orc.z)))))))))))))))))))))))))))) (.tup [.agg (clL y), .agg [.i .i64 0, .i .i64 0, .i .i64 0,
  .l0, .l0, .l0, .l0], .i .i64 0, .b false]) [] [] 5 (fun Lf => True ∧ True ∧ (!!decide (Mg.k m = 9)) = true ∧ True ∧ (!!decide (Mg.k m = 9)) = true ∧ (!!decide (Mg.k m = 9)) =
  true ∧ True ∧ (!!decide (Mg.k m = 9)) = true ∧ (!!decide (Mg.k m = 9)) = true ∧ rg (8 + Cl.s y) ∧ (!!decide (Mg.k m = 9)) = true ∧ (!decide (Mg.k m = 9)) = false ∧ (!!decide
  (Mg.to m = 8 + Cl.s y)) = true ∧ True ∧ (!!decide (Mg.to m = 8 + Cl.s y)) = true ∧ (!!decide (Mg.to m = 8 + Cl.s y)) = true ∧ (!decide (Mg.to m = 8 + Cl.s y)) = false ∧
  (!decide (Mg.fr m < 0)) = true ∧ True ∧ (!decide (Mg.fr m < 0)) = true ∧ (!decide (Mg.fr m < 0)) = true ∧ True ∧ (!decide (Mg.fr m < 0)) = true ∧ (!decide (Mg.fr m < 0)) =
  true ∧ decide (Mg.fr m < 0) = false ∧ (!decide (Cl.p y ≤ Mg.fr m)) = true ∧ True ∧ (!decide (Cl.p y ≤ Mg.fr m)) = true ∧ (!decide (Cl.p y ≤ Mg.fr m)) = true ∧ True ∧ decide
  (Cl.p y ≤ Mg.fr m) = false ∧ (!!Cl.o y) = false ∧ (!!Cl.o y) = false ∧ (!!Cl.o y) = false ∧ (!!Cl.o y) = false ∧ (!!Cl.o y) = false ∧ (!Cl.o y) = true ∧ Lf)
  := by unfold VD VQ; kernel_rfl
theorem rk5_vq (y : Cl) (m : Mg) (h0 : decide (m.k = 9) = true) (h1 : decide (m.to = 8 + y.s) = true) (h2 : decide (m.fr < 0) = false) (h3 : decide (y.p ≤ m.fr) = false) (h4 :
  y.o = true) (h5 : decide (m.c.sv = y.s) = false) : VD Try.prog 18 [.agg (clL y), mgV m] [] (Orc.t (Orc.t (Orc.t (Orc.t (Orc.t (Orc.t (Orc.f (Orc.t (Orc.t (Orc.t (Orc.f (Orc.t
  (Orc.t (Orc.t (Orc.t (Orc.t (Orc.f (Orc.t (Orc.t (Orc.t (Orc.f (Orc.t (Orc.t (Orc.t (Orc.t (Orc.t (Orc.f (Orc.f (Orc.f (Orc.f (Orc.f (Orc.f (Orc.t (oc 8
  Orc.z)))))))))))))))))))))))))))))))))) (.tup [.agg (clL y), .agg [.i .i64 0, .i .i64 0, .i .i64 0, .l0, .l0, .l0, .l0], .i .i64 0, .b false]) [] [] 5 (fun Lf => True ∧ True
  ∧ (!!decide (Mg.k m = 9)) = true ∧ True ∧ (!!decide (Mg.k m = 9)) = true ∧ (!!decide (Mg.k m = 9)) = true ∧ True ∧ (!!decide (Mg.k m = 9)) = true ∧ (!!decide (Mg.k m = 9)) =
  true ∧ rg (8 + Cl.s y) ∧ (!!decide (Mg.k m = 9)) = true ∧ (!decide (Mg.k m = 9)) = false ∧ (!!decide (Mg.to m = 8 + Cl.s y)) = true ∧ True ∧ (!!decide (Mg.to m = 8 + Cl.s y))
  = true ∧ (!!decide (Mg.to m = 8 + Cl.s y)) = true ∧ (!decide (Mg.to m = 8 + Cl.s y)) = false ∧ (!decide (Mg.fr m < 0)) = true ∧ True ∧ (!decide (Mg.fr m < 0)) = true ∧
  (!decide (Mg.fr m < 0)) = true ∧ True ∧ (!decide (Mg.fr m < 0)) = true ∧ (!decide (Mg.fr m < 0)) = true ∧ decide (Mg.fr m < 0) = false ∧ (!decide (Cl.p y ≤ Mg.fr m)) = true ∧
  True ∧ (!decide (Cl.p y ≤ Mg.fr m)) = true ∧ (!decide (Cl.p y ≤ Mg.fr m)) = true ∧ True ∧ decide (Cl.p y ≤ Mg.fr m) = false ∧ (!!Cl.o y) = true ∧ True ∧ (!!Cl.o y) = true ∧
  (!!Cl.o y) = true ∧ True ∧ (!!Cl.o y) = true ∧ (!!Cl.o y) = true ∧ (!Cl.o y) = false ∧ (!!decide (Cm.sv (Mg.c m) = Cl.s y)) = false ∧ (!!decide (Cm.sv (Mg.c m) = Cl.s y)) =
  false ∧ (!!decide (Cm.sv (Mg.c m) = Cl.s y)) = false ∧ (!!decide (Cm.sv (Mg.c m) = Cl.s y)) = false ∧ (!!decide (Cm.sv (Mg.c m) = Cl.s y)) = false ∧ (!decide (Cm.sv (Mg.c m)
  = Cl.s y)) = true ∧ Lf) := by unfold VD VQ; kernel_rfl
theorem rk6_vq (y : Cl) (m : Mg) (h0 : decide (m.k = 9) = true) (h1 : decide (m.to = 8 + y.s) = true) (h2 : decide (m.fr < 0) = false) (h3 : decide (y.p ≤ m.fr) = false) (h4 :
  y.o = true) (h5 : decide (m.c.sv = y.s) = true) (h6 : decide (m.c.bt = y.b) = false) : VD Try.prog 18 [.agg (clL y), mgV m] [] (Orc.t (Orc.t (Orc.t (Orc.t (Orc.t (Orc.t
  (Orc.f (Orc.t (Orc.t (Orc.t (Orc.f (Orc.t (Orc.t (Orc.t (Orc.t (Orc.t (Orc.f (Orc.t (Orc.t (Orc.t (Orc.f (Orc.t (Orc.t (Orc.t (Orc.t (Orc.t (Orc.f (Orc.t (Orc.t (Orc.t (Orc.t
  (Orc.t (Orc.f (Orc.f (Orc.f (Orc.f (Orc.f (Orc.f (Orc.f (Orc.t (Orc.c Orc.z))))))))))))))))))))))))))))))))))))))))) (.tup [.agg (clL y), .agg [.i .i64 0, .i .i64 0, .i .i64
  0, .l0, .l0, .l0, .l0], .i .i64 0, .b false]) [] [] 5 (fun Lf => True ∧ True ∧ (!!decide (Mg.k m = 9)) = true ∧ True ∧ (!!decide (Mg.k m = 9)) = true ∧ (!!decide (Mg.k m =
  9)) = true ∧ True ∧ (!!decide (Mg.k m = 9)) = true ∧ (!!decide (Mg.k m = 9)) = true ∧ rg (8 + Cl.s y) ∧ (!!decide (Mg.k m = 9)) = true ∧ (!decide (Mg.k m = 9)) = false ∧
  (!!decide (Mg.to m = 8 + Cl.s y)) = true ∧ True ∧ (!!decide (Mg.to m = 8 + Cl.s y)) = true ∧ (!!decide (Mg.to m = 8 + Cl.s y)) = true ∧ (!decide (Mg.to m = 8 + Cl.s y)) =
  false ∧ (!decide (Mg.fr m < 0)) = true ∧ True ∧ (!decide (Mg.fr m < 0)) = true ∧ (!decide (Mg.fr m < 0)) = true ∧ True ∧ (!decide (Mg.fr m < 0)) = true ∧ (!decide (Mg.fr m <
  0)) = true ∧ decide (Mg.fr m < 0) = false ∧ (!decide (Cl.p y ≤ Mg.fr m)) = true ∧ True ∧ (!decide (Cl.p y ≤ Mg.fr m)) = true ∧ (!decide (Cl.p y ≤ Mg.fr m)) = true ∧ True ∧
  decide (Cl.p y ≤ Mg.fr m) = false ∧ (!!Cl.o y) = true ∧ True ∧ (!!Cl.o y) = true ∧ (!!Cl.o y) = true ∧ True ∧ (!!Cl.o y) = true ∧ (!!Cl.o y) = true ∧ (!Cl.o y) = false ∧
  (!!decide (Cm.sv (Mg.c m) = Cl.s y)) = true ∧ True ∧ (!!decide (Cm.sv (Mg.c m) = Cl.s y)) = true ∧ (!!decide (Cm.sv (Mg.c m) = Cl.s y)) = true ∧ True ∧ (!!decide (Cm.sv (Mg.c
  m) = Cl.s y)) = true ∧ (!!decide (Cm.sv (Mg.c m) = Cl.s y)) = true ∧ (!decide (Cm.sv (Mg.c m) = Cl.s y)) = false ∧ (!!decide (Cm.bt (Mg.c m) = Cl.b y)) = false ∧ (!!decide
  (Cm.bt (Mg.c m) = Cl.b y)) = false ∧ (!!decide (Cm.bt (Mg.c m) = Cl.b y)) = false ∧ (!!decide (Cm.bt (Mg.c m) = Cl.b y)) = false ∧ (!!decide (Cm.bt (Mg.c m) = Cl.b y)) =
  false ∧ (!!decide (Cm.bt (Mg.c m) = Cl.b y)) = false ∧ (!decide (Cm.bt (Mg.c m) = Cl.b y)) = true ∧ Lf) := by unfold VD VQ; kernel_rfl
theorem rk7_vq (y : Cl) (m : Mg) (h0 : decide (m.k = 9) = true) (h1 : decide (m.to = 8 + y.s) = true) (h2 : decide (m.fr < 0) = false) (h3 : decide (y.p ≤ m.fr) = false) (h4 :
  y.o = true) (h5 : decide (m.c.sv = y.s) = true) (h6 : decide (m.c.bt = y.b) = true) (h7 : decide (m.c.sq = y.c.sq) = false) : VD Try.prog 18 [.agg (clL y), mgV m] [] (Orc.t
  (Orc.t (Orc.t (Orc.t (Orc.t (Orc.t (Orc.f (Orc.t (Orc.t (Orc.t (Orc.f (Orc.t (Orc.t (Orc.t (Orc.t (Orc.t (Orc.f (Orc.t (Orc.t (Orc.t (Orc.f (Orc.t (Orc.t (Orc.t (Orc.t (Orc.t
  (Orc.f (Orc.t (Orc.t (Orc.t (Orc.t (Orc.t (Orc.f (Orc.t (Orc.t (Orc.t (Orc.t (Orc.t (Orc.t (Orc.f (Orc.t Orc.z))))))))))))))))))))))))))))))))))))))))) (.tup [.agg (clL y),
  .agg [.i .i64 0, .i .i64 0, .i .i64 0, .l0, .l0, .l0, .l0], .i .i64 0, .b false]) [] [] 5 (fun Lf => True ∧ True ∧ (!!decide (Mg.k m = 9)) = true ∧ True ∧ (!!decide (Mg.k m =
  9)) = true ∧ (!!decide (Mg.k m = 9)) = true ∧ True ∧ (!!decide (Mg.k m = 9)) = true ∧ (!!decide (Mg.k m = 9)) = true ∧ rg (8 + Cl.s y) ∧ (!!decide (Mg.k m = 9)) = true ∧
  (!decide (Mg.k m = 9)) = false ∧ (!!decide (Mg.to m = 8 + Cl.s y)) = true ∧ True ∧ (!!decide (Mg.to m = 8 + Cl.s y)) = true ∧ (!!decide (Mg.to m = 8 + Cl.s y)) = true ∧
  (!decide (Mg.to m = 8 + Cl.s y)) = false ∧ (!decide (Mg.fr m < 0)) = true ∧ True ∧ (!decide (Mg.fr m < 0)) = true ∧ (!decide (Mg.fr m < 0)) = true ∧ True ∧ (!decide (Mg.fr m
  < 0)) = true ∧ (!decide (Mg.fr m < 0)) = true ∧ decide (Mg.fr m < 0) = false ∧ (!decide (Cl.p y ≤ Mg.fr m)) = true ∧ True ∧ (!decide (Cl.p y ≤ Mg.fr m)) = true ∧ (!decide
  (Cl.p y ≤ Mg.fr m)) = true ∧ True ∧ decide (Cl.p y ≤ Mg.fr m) = false ∧ (!!Cl.o y) = true ∧ True ∧ (!!Cl.o y) = true ∧ (!!Cl.o y) = true ∧ True ∧ (!!Cl.o y) = true ∧ (!!Cl.o
  y) = true ∧ (!Cl.o y) = false ∧ (!!decide (Cm.sv (Mg.c m) = Cl.s y)) = true ∧ True ∧ (!!decide (Cm.sv (Mg.c m) = Cl.s y)) = true ∧ (!!decide (Cm.sv (Mg.c m) = Cl.s y)) = true
  ∧ True ∧ (!!decide (Cm.sv (Mg.c m) = Cl.s y)) = true ∧ (!!decide (Cm.sv (Mg.c m) = Cl.s y)) = true ∧ (!decide (Cm.sv (Mg.c m) = Cl.s y)) = false ∧ (!!decide (Cm.bt (Mg.c m) =
  Cl.b y)) = true ∧ True ∧ (!!decide (Cm.bt (Mg.c m) = Cl.b y)) = true ∧ (!!decide (Cm.bt (Mg.c m) = Cl.b y)) = true ∧ True ∧ (!!decide (Cm.bt (Mg.c m) = Cl.b y)) = true ∧ True
  ∧ (!!decide (Cm.bt (Mg.c m) = Cl.b y)) = true ∧ (!!decide (Cm.bt (Mg.c m) = Cl.b y)) = true ∧ (!decide (Cm.bt (Mg.c m) = Cl.b y)) = false ∧ (!decide (Cm.sq (Mg.c m) = Cm.sq
  (Cl.c y))) = true ∧ Lf) := by unfold VD VQ; kernel_rfl
theorem rk8_vq (y : Cl) (m : Mg) (h0 : decide (m.k = 9) = true) (h1 : decide (m.to = 8 + y.s) = true) (h2 : decide (m.fr < 0) = false) (h3 : decide (y.p ≤ m.fr) = false) (h4 :
  y.o = true) (h5 : decide (m.c.sv = y.s) = true) (h6 : decide (m.c.bt = y.b) = true) (h7 : decide (m.c.sq = y.c.sq) = true) : VD Try.prog 18 [.agg (clL y), mgV m] [] (Orc.t
  (Orc.t (Orc.t (Orc.t (Orc.t (Orc.t (Orc.f (Orc.t (Orc.t (Orc.t (Orc.f (Orc.t (Orc.t (Orc.t (Orc.t (Orc.t (Orc.f (Orc.t (Orc.t (Orc.t (Orc.f (Orc.t (Orc.t (Orc.t (Orc.t (Orc.t
  (Orc.f (Orc.t (Orc.t (Orc.t (Orc.t (Orc.t (Orc.f (Orc.t (Orc.t (Orc.t (Orc.t (Orc.t (Orc.t (Orc.f (Orc.f (Orc.cal [] (.agg [.i .i64 (Mb.x (Mg.v m) 6), .i .i64 (Mb.x (Mg.v m)
  7), .i .i64 (Mb.x (Mg.v m) 8), isv (Mb.mn (Mg.v m)) (Mb.mf (Mg.v m)), isv (Mb.sn (Mg.v m)) (Mb.sf (Mg.v m)), svN (Mb.hn (Mg.v m)) (Mb.hA (Mg.v m)) (Mb.hM (Mg.v m)) (Mb.hW
  (Mg.v m)), svN (Mb.dn (Mg.v m)) (Mb.dA (Mg.v m)) (Mb.dM (Mg.v m)) (Mb.dW (Mg.v m))]) [] Orc.z)))))))))))))))))))))))))))))))))))))))))) (.tup [.agg (rkL y m), .agg (vwL m.v),
  .i .i64 y.f, .b true]) [] [] 5 (fun Lf => True ∧ True ∧ (!!decide (Mg.k m = 9)) = true ∧ True ∧ (!!decide (Mg.k m = 9)) = true ∧ (!!decide (Mg.k m = 9)) = true ∧ True ∧
  (!!decide (Mg.k m = 9)) = true ∧ (!!decide (Mg.k m = 9)) = true ∧ rg (8 + Cl.s y) ∧ (!!decide (Mg.k m = 9)) = true ∧ (!decide (Mg.k m = 9)) = false ∧ (!!decide (Mg.to m = 8 +
  Cl.s y)) = true ∧ True ∧ (!!decide (Mg.to m = 8 + Cl.s y)) = true ∧ (!!decide (Mg.to m = 8 + Cl.s y)) = true ∧ (!decide (Mg.to m = 8 + Cl.s y)) = false ∧ (!decide (Mg.fr m <
  0)) = true ∧ True ∧ (!decide (Mg.fr m < 0)) = true ∧ (!decide (Mg.fr m < 0)) = true ∧ True ∧ (!decide (Mg.fr m < 0)) = true ∧ (!decide (Mg.fr m < 0)) = true ∧ decide (Mg.fr m
  < 0) = false ∧ (!decide (Cl.p y ≤ Mg.fr m)) = true ∧ True ∧ (!decide (Cl.p y ≤ Mg.fr m)) = true ∧ (!decide (Cl.p y ≤ Mg.fr m)) = true ∧ True ∧ decide (Cl.p y ≤ Mg.fr m) =
  false ∧ (!!Cl.o y) = true ∧ True ∧ (!!Cl.o y) = true ∧ (!!Cl.o y) = true ∧ True ∧ (!!Cl.o y) = true ∧ (!!Cl.o y) = true ∧ (!Cl.o y) = false ∧ (!!decide (Cm.sv (Mg.c m) = Cl.s
  y)) = true ∧ True ∧ (!!decide (Cm.sv (Mg.c m) = Cl.s y)) = true ∧ (!!decide (Cm.sv (Mg.c m) = Cl.s y)) = true ∧ True ∧ (!!decide (Cm.sv (Mg.c m) = Cl.s y)) = true ∧ (!!decide
  (Cm.sv (Mg.c m) = Cl.s y)) = true ∧ (!decide (Cm.sv (Mg.c m) = Cl.s y)) = false ∧ (!!decide (Cm.bt (Mg.c m) = Cl.b y)) = true ∧ True ∧ (!!decide (Cm.bt (Mg.c m) = Cl.b y)) =
  true ∧ (!!decide (Cm.bt (Mg.c m) = Cl.b y)) = true ∧ True ∧ (!!decide (Cm.bt (Mg.c m) = Cl.b y)) = true ∧ True ∧ (!!decide (Cm.bt (Mg.c m) = Cl.b y)) = true ∧ (!!decide
  (Cm.bt (Mg.c m) = Cl.b y)) = true ∧ (!decide (Cm.bt (Mg.c m) = Cl.b y)) = false ∧ (!decide (Cm.sq (Mg.c m) = Cm.sq (Cl.c y))) = false ∧ True ∧ True ∧ True ∧ True ∧ True ∧ Con
  Try.prog 38 [.agg [.i .i64 (Mb.x (Mg.v m) 6), .i .i64 (Mb.x (Mg.v m) 7), .i .i64 (Mb.x (Mg.v m) 8), isv (Mb.mn (Mg.v m)) (Mb.mf (Mg.v m)), isv (Mb.sn (Mg.v m)) (Mb.sf (Mg.v
  m)), svN (Mb.hn (Mg.v m)) (Mb.hA (Mg.v m)) (Mb.hM (Mg.v m)) (Mb.hW (Mg.v m)), svN (Mb.dn (Mg.v m)) (Mb.dA (Mg.v m)) (Mb.dM (Mg.v m)) (Mb.dW (Mg.v m))]] [] (.agg [.i .i64
  (Mb.x (Mg.v m) 6), .i .i64 (Mb.x (Mg.v m) 7), .i .i64 (Mb.x (Mg.v m) 8), isv (Mb.mn (Mg.v m)) (Mb.mf (Mg.v m)), isv (Mb.sn (Mg.v m)) (Mb.sf (Mg.v m)), svN (Mb.hn (Mg.v m))
  (Mb.hA (Mg.v m)) (Mb.hM (Mg.v m)) (Mb.hW (Mg.v m)), svN (Mb.dn (Mg.v m)) (Mb.dA (Mg.v m)) (Mb.dM (Mg.v m)) (Mb.dW (Mg.v m))]) [] ∧ True ∧ Lf) := by unfold VD VQ; kernel_rfl
theorem ra0_vq (y : Cl) (c : Cm) (t : Int) : VD Try.prog 20 [.agg (clL y), .i .i64 t, cmV c] [] (Orc.cal [] (.b false) [] (oc 5 Orc.z)) (.tup [.agg (clL y), .l0, .i .i64 2]) []
  [] 3 (fun Lf => Con Try.prog 36 [.i .i64 t] [] (.b false) [] ∧ True ∧ Lf) := by unfold VD VQ; kernel_rfl
theorem ra1_vq (y : Cl) (c : Cm) (t : Int) (h : decide (1099511627776 ≤ y.n) = true) : VD Try.prog 20 [.agg (clL y), .i .i64 t, cmV c] [] (Orc.cal [] (.b true) [] (oc 4 (Orc.t
  Orc.z))) (.tup [.agg (clL y), .l0, .i .i64 2]) [] [] 3 (fun Lf => Con Try.prog 36 [.i .i64 t] [] (.b true) [] ∧ True ∧ True ∧ decide (1099511627776 ≤ Cl.n y) = true ∧ Lf)
  := by unfold VD VQ; kernel_rfl
theorem ra2_vq (y : Cl) (c : Cm) (t : Int) (h : decide (1099511627776 ≤ y.n) = false) : VD Try.prog 20 [.agg (clL y), .i .i64 t, cmV c] [] (Orc.cal [] (.b true) [] (oc 4 (Orc.f
  (Orc.cal [] (.b false) [] (oc 9 Orc.z))))) (.tup [.agg (clL y), .l0, .i .i64 19]) [] [] 3 (fun Lf => Con Try.prog 36 [.i .i64 t] [] (.b true) [] ∧ True ∧ True ∧ decide
  (1099511627776 ≤ Cl.n y) = false ∧ True ∧ True ∧ True ∧ True ∧ True ∧ rg (Cl.n y + 1) ∧ True ∧ Con Try.prog 41 [.agg [.i .i64 (Cm.k c), .i .i64 (Cl.s y), .i .i64 (Cl.b y), .i
  .i64 (Cl.n y + 1), .i .i64 (Cm.gn c), .i .i64 (Cm.lk c), .i .i64 (Cm.md c), .i .i64 (Cm.ot c), isv (Cm.mn c) (Cm.mf c), .i .i64 (Cm.d c)]] [] (.b false) [] ∧ True ∧ Lf)
  := by unfold VD VQ; kernel_rfl
theorem ra3_vq (y : Cl) (c : Cm) (t : Int) (h : decide (1099511627776 ≤ y.n) = false) (h2 : decide (c.k = 8) = true) : VD Try.prog 20 [.agg (clL y), .i .i64 t, cmV c] []
  (Orc.cal [] (.b true) [] (oc 4 (Orc.f (Orc.cal [] (.b true) [] (oc 4 (Orc.f (Orc.f (Orc.f (Orc.t (Orc.c Orc.z)))))))))) (.tup [.agg (clL y), .l0, .i .i64 19]) [] [] 3 (fun Lf
  => Con Try.prog 36 [.i .i64 t] [] (.b true) [] ∧ True ∧ True ∧ decide (1099511627776 ≤ Cl.n y) = false ∧ True ∧ True ∧ True ∧ True ∧ True ∧ rg (Cl.n y + 1) ∧ True ∧ Con
  Try.prog 41 [.agg [.i .i64 (Cm.k c), .i .i64 (Cl.s y), .i .i64 (Cl.b y), .i .i64 (Cl.n y + 1), .i .i64 (Cm.gn c), .i .i64 (Cm.lk c), .i .i64 (Cm.md c), .i .i64 (Cm.ot c), isv
  (Cm.mn c) (Cm.mf c), .i .i64 (Cm.d c)]] [] (.b true) [] ∧ True ∧ True ∧ (!decide (Cm.k c = 8)) = false ∧ (!decide (Cm.k c = 8)) = false ∧ (!decide (Cm.k c = 8)) = false ∧
  decide (Cm.k c = 8) = true ∧ Lf) := by unfold VD VQ; kernel_rfl
theorem ra4_vq (y : Cl) (c : Cm) (t : Int) (h : decide (1099511627776 ≤ y.n) = false) (h2 : decide (c.k = 8) = false) (h3 : decide (c.d = 0) = false) : VD Try.prog 20 [.agg
  (clL y), .i .i64 t, cmV c] [] (Orc.cal [] (.b true) [] (oc 4 (Orc.f (Orc.cal [] (.b true) [] (oc 4 (Orc.t (Orc.t (Orc.t (Orc.f (Orc.t Orc.z)))))))))) (.tup [.agg (clL y),
  .l0, .i .i64 19]) [] [] 3 (fun Lf => Con Try.prog 36 [.i .i64 t] [] (.b true) [] ∧ True ∧ True ∧ decide (1099511627776 ≤ Cl.n y) = false ∧ True ∧ True ∧ True ∧ True ∧ True ∧
  rg (Cl.n y + 1) ∧ True ∧ Con Try.prog 41 [.agg [.i .i64 (Cm.k c), .i .i64 (Cl.s y), .i .i64 (Cl.b y), .i .i64 (Cl.n y + 1), .i .i64 (Cm.gn c), .i .i64 (Cm.lk c), .i .i64
  (Cm.md c), .i .i64 (Cm.ot c), isv (Cm.mn c) (Cm.mf c), .i .i64 (Cm.d c)]] [] (.b true) [] ∧ True ∧ True ∧ (!decide (Cm.k c = 8)) = true ∧ True ∧ (!decide (Cm.k c = 8)) = true
  ∧ (!decide (Cm.k c = 8)) = true ∧ decide (Cm.k c = 8) = false ∧ (!decide (Cm.d c = 0)) = true ∧ Lf) := by unfold VD VQ; kernel_rfl
theorem ra5_vq (y : Cl) (c : Cm) (t : Int) (h : decide (1099511627776 ≤ y.n) = false) (h2 : decide (c.k = 8) = false) (h3 : decide (c.d = 0) = true) (h4 : y.o = true) : VD
  Try.prog 20 [.agg (clL y), .i .i64 t, cmV c] [] (Orc.cal [] (.b true) [] (oc 4 (Orc.f (Orc.cal [] (.b true) [] (oc 4 (Orc.t (Orc.t (Orc.t (Orc.f (Orc.f (Orc.t
  Orc.z))))))))))) (.tup [.agg (clL y), .l0, .i .i64 26]) [] [] 3 (fun Lf => Con Try.prog 36 [.i .i64 t] [] (.b true) [] ∧ True ∧ True ∧ decide (1099511627776 ≤ Cl.n y) = false
  ∧ True ∧ True ∧ True ∧ True ∧ True ∧ rg (Cl.n y + 1) ∧ True ∧ Con Try.prog 41 [.agg [.i .i64 (Cm.k c), .i .i64 (Cl.s y), .i .i64 (Cl.b y), .i .i64 (Cl.n y + 1), .i .i64
  (Cm.gn c), .i .i64 (Cm.lk c), .i .i64 (Cm.md c), .i .i64 (Cm.ot c), isv (Cm.mn c) (Cm.mf c), .i .i64 (Cm.d c)]] [] (.b true) [] ∧ True ∧ True ∧ (!decide (Cm.k c = 8)) = true
  ∧ True ∧ (!decide (Cm.k c = 8)) = true ∧ (!decide (Cm.k c = 8)) = true ∧ decide (Cm.k c = 8) = false ∧ (!decide (Cm.d c = 0)) = false ∧ True ∧ Cl.o y = true ∧ Lf)
  := by unfold VD VQ; kernel_rfl
theorem ra6_fq (y : Cl) (c : Cm) (t : Int) (h : decide (1099511627776 ≤ y.n) = false) (h2 : decide (c.k = 8) = false) (h3 : decide (c.d = 0) = true) (h4 : y.o = false) : VF
  Try.prog 20 [.agg (clL y), .i .i64 t, cmV c] [] (Orc.cal [] (.b true) [] (oc 4 (Orc.f (Orc.cal [] (.b true) [] (oc 4 (Orc.t (Orc.t (Orc.t (Orc.f (Orc.f (Orc.f (Orc.lop [0, 1,
  2] [1, 3, 5, 6, 9, 10] 3 (XO.exit 0) [(1, .i .i64 t), (3, .p 0 0), (5, .p 1 0), (6, .p 2 0), (9, isv (Cm.mn c) (Cm.mf c))] [some (clR y), some (AObj.cells 33 10 [] (setAll
  T.e 0 [.i .i64 (Cm.k c), .i .i64 (Cl.s y), .i .i64 (Cl.b y), .i .i64 (Cl.n y + 1), .i .i64 (Cm.gn c), .i .i64 (Cm.lk c), .i .i64 (Cm.md c), .i .i64 (Cm.ot c), isv (Cm.mn c)
  (Cm.mf c), .i .i64 (Cm.d c)])), some clZ, none] (Orc.inl Orc.z))))))))))))) (.tup [.agg (clL (akS y t c)), .sv 25 1 (listF 25 (rqL y.s y.q (akC y c) fun _ _ => .p0) 1), .i
  .i64 0]) [] [5] [] (frP2) 6 (fun Lf => Con Try.prog 36 [.i .i64 t] [] (.b true) [] ∧ True ∧ True ∧ decide (1099511627776 ≤ Cl.n y) = false ∧ True ∧ True ∧ True ∧ True ∧ True
  ∧ rg (Cl.n y + 1) ∧ True ∧ Con Try.prog 41 [.agg [.i .i64 (Cm.k c), .i .i64 (Cl.s y), .i .i64 (Cl.b y), .i .i64 (Cl.n y + 1), .i .i64 (Cm.gn c), .i .i64 (Cm.lk c), .i .i64
  (Cm.md c), .i .i64 (Cm.ot c), isv (Cm.mn c) (Cm.mf c), .i .i64 (Cm.d c)]] [] (.b true) [] ∧ True ∧ True ∧ (!decide (Cm.k c = 8)) = true ∧ True ∧ (!decide (Cm.k c = 8)) = true
  ∧ (!decide (Cm.k c = 8)) = true ∧ decide (Cm.k c = 8) = false ∧ (!decide (Cm.d c = 0)) = false ∧ True ∧ Cl.o y = false ∧ LDoes Try.prog (loopAt Try.prog 20 0) 77 3 (mkT [(1,
  .i .i64 t), (3, .p 0 0), (5, .p 1 0), (6, .p 2 0), (9, .l0), (10, .i .i64 0)]) [some (clR y), some (AObj.cells 33 10 [] (setAll T.e 0 [.i .i64 (Cm.k c), .i .i64 (Cl.s y), .i
  .i64 (Cl.b y), .i .i64 (Cl.n y + 1), .i .i64 (Cm.gn c), .i .i64 (Cm.lk c), .i .i64 (Cm.md c), .i .i64 (Cm.ot c), isv (Cm.mn c) (Cm.mf c), .i .i64 (Cm.d c)])), some clZ]
  (XO.exit 0) (mkT [(1, .i .i64 t), (3, .p 0 0), (5, .p 1 0), (6, .p 2 0), (9, isv (Cm.mn c) (Cm.mf c))]) [some (clR y), some (AObj.cells 33 10 [] (setAll T.e 0 [.i .i64 (Cm.k
  c), .i .i64 (Cl.s y), .i .i64 (Cl.b y), .i .i64 (Cl.n y + 1), .i .i64 (Cm.gn c), .i .i64 (Cm.lk c), .i .i64 (Cm.md c), .i .i64 (Cm.ot c), isv (Cm.mn c) (Cm.mf c), .i .i64
  (Cm.d c)])), some clZ, none] ∧ True ∧ True ∧ True ∧ True ∧ True ∧ True ∧ True ∧ True ∧ rg (8 + Cl.s y) ∧ True ∧ True ∧ Lf) := by unfold VF; kernel_rfl
theorem raR_lq (y : Cl) (c : Cm) (t : Int) (F : Nat → Nat → CV) (k i : Nat) (h1 : decide (Int.ofNat i < Int.ofNat c.mn) = true) : LD Try.prog (loopAt Try.prog 20 0) 77 3 [(1,
  .i .i64 t), (3, .p 0 0), (5, .p 1 0), (6, .p 2 0), (9, .lr 3 1 0 k false), (10, .i .i64 (Int.ofNat i))] [some (clR y), some (.cells 33 10 [] (setAll .e 0 [.i .i64 c.k, .i
  .i64 y.s, .i .i64 y.b, .i .i64 (y.n + 1), .i .i64 c.gn, .i .i64 c.lk, .i .i64 c.md, .i .i64 c.ot, isv c.mn c.mf, .i .i64 c.d])), some clZ, some (.rows 3 1 k F)] (Orc.t Orc.z)
  .nrm [0, 1, 2, 5] [(1, .i .i64 t), (3, .p 0 0), (5, .p 1 0), (6, .p 2 0), (9, .lr 3 1 0 (addN k 1) false), (10, .i .i64 (Int.ofNat i + 1))] [some (clR y), some (cmO (akC y
  c)), some clZ, some (.rows 3 1 (addN k 1) (appZ k F (listF 1 [.i .i64 (c.mf i)] 1)))] 6 (fun Lf => True ∧ decide (Int.ofNat i < Int.ofNat (Cm.mn c)) = true ∧ True ∧ (0 ≤
  Int.ofNat i ∧ Int.ofNat i < ↑(Cm.mn c)) ∧ True ∧ (0 + k ≤ k ∧ True ∧ k + 1 ≤ 140737488355328 ∧ (3 * (k + 1) + 1536) * 8 ≤ 562949953421312) ∧ rg (Int.ofNat i + 1) ∧ Lf)
  := by unfold LD LQ; kernel_rfl
theorem raE_lq (y : Cl) (c : Cm) (t : Int) (F : Nat → Nat → CV) (k i : Nat) (h1 : decide (Int.ofNat i < Int.ofNat c.mn) = false) : LD Try.prog (loopAt Try.prog 20 0) 77 3 [(1,
  .i .i64 t), (3, .p 0 0), (5, .p 1 0), (6, .p 2 0), (9, .lr 3 1 0 k false), (10, .i .i64 (Int.ofNat i))] [some (clR y), some (.cells 33 10 [] (setAll .e 0 [.i .i64 c.k, .i
  .i64 y.s, .i .i64 y.b, .i .i64 (y.n + 1), .i .i64 c.gn, .i .i64 c.lk, .i .i64 c.md, .i .i64 c.ot, isv c.mn c.mf, .i .i64 c.d])), some clZ, some (.rows 3 1 k F)] (Orc.f Orc.z)
  (.exit 0) [0, 1, 2, 3] [(1, .i .i64 t), (3, .p 0 0), (5, .p 1 0), (6, .p 2 0), (9, .lr 3 1 0 k false)] [some (clR y), some (cmO (akC y c)), some clZ, some (.rows 3 1 k F)] 4
  (fun Lf => True ∧ decide (Int.ofNat i < Int.ofNat (Cm.mn c)) = false ∧ Lf) := by unfold LD LQ; kernel_rfl
theorem pa_lq (x : Cl) (y : Cl) (n : Nat) (O : Nat → Opx) (e : Int) (c2 : Cm) (i : Nat) (h0 : decide (Int.ofNat i < Int.ofNat n) = true) (k1 : decide ((O i).k = 1) = true) : LD
  Try.prog (loopAt Try.prog 4 0) 173 2 [(6, .b false), (7, .p 0 0), (9, .p 1 0), (53, .sv 27 n (oxF O)), (54, .i .i64 (Int.ofNat n)), (55, .i .i64 (Int.ofNat i))] [some (clO
  x), some (clM y)] (Orc.t (Orc.t (Orc.cal [0] (.tup [.l0, .i .i64 e]) [.keep] (Orc.cal [] (.tup [.agg [.i .i64 (Cl.s y), .i .i64 (Cl.b y), .i .i64 (Cl.p y), .i .i64 (Cl.q y),
  .i .i64 (Cl.n y), .b (Cl.o y), .i .i64 (Cm.k (Cl.c y)), .i .i64 (Cm.sv (Cl.c y)), .i .i64 (Cm.bt (Cl.c y)), .i .i64 (Cm.sq (Cl.c y)), .i .i64 (Cm.gn (Cl.c y)), .i .i64 (Cm.lk
  (Cl.c y)), .i .i64 (Cm.md (Cl.c y)), .i .i64 (Cm.ot (Cl.c y)), isv (Cm.mn (Cl.c y)) (Cm.mf (Cl.c y)), .i .i64 (Cm.d (Cl.c y)), .i .i64 (Cl.f y), .i .i64 (Cl.l y)], .l0, .i
  .i64 e]) [] (Orc.cal [0] (.tup [.agg [.i .i64 (Cm.k c2), .i .i64 (Cm.sv c2), .i .i64 (Cm.bt c2), .i .i64 (Cm.sq c2), .i .i64 (Cm.gn c2), .i .i64 (Cm.lk c2), .i .i64 (Cm.md
  c2), .i .i64 (Cm.ot c2), isv (Cm.mn c2) (Cm.mf c2), .i .i64 (Cm.d c2)], .b (Cl.o y)]) [.keep] (oc 4 (Orc.t (Orc.t (Orc.t (Orc.cal [] (.b true) [] (Orc.t (Orc.f (oc 5 (Orc.t
  (Orc.t (Orc.t (Orc.t (Orc.cal [] (.b true) [] (Orc.t (Orc.f (oc 2 (Orc.cal [0] (.i .i64 (Cl.q y)) [.keep] (oc 4 (Orc.f Orc.z)))))))))))))))))))))))) .nrm [0, 1] [(6, .b
  false), (7, .p 0 0), (9, .p 1 0), (53, .sv 27 n (oxF O)), (54, .i .i64 (Int.ofNat n)), (55, .i .i64 (Int.ofNat i + 1))] [some (clO x), some (clM y)] 4 (fun Lf => decide
  (Int.ofNat i < Int.ofNat n) = true ∧ (0 ≤ Int.ofNat i ∧ Int.ofNat i < ↑n) ∧ True ∧ True ∧ decide (Opx.k (O i) = 1) = true ∧ True ∧ Con Try.prog 10 [.p 0 0, .i .i64 (Opx.t (O
  i))] [some (clO x)] (.tup [.l0, .i .i64 e]) [.keep] ∧ True ∧ Con Try.prog 16 [.agg [.i .i64 (Cl.s y), .i .i64 (Cl.b y), .i .i64 (Cl.p y), .i .i64 (Cl.q y), .i .i64 (Cl.n y),
  .b (Cl.o y), .i .i64 (Cm.k (Cl.c y)), .i .i64 (Cm.sv (Cl.c y)), .i .i64 (Cm.bt (Cl.c y)), .i .i64 (Cm.sq (Cl.c y)), .i .i64 (Cm.gn (Cl.c y)), .i .i64 (Cm.lk (Cl.c y)), .i
  .i64 (Cm.md (Cl.c y)), .i .i64 (Cm.ot (Cl.c y)), isv (Cm.mn (Cl.c y)) (Cm.mf (Cl.c y)), .i .i64 (Cm.d (Cl.c y)), .i .i64 (Cl.f y), .i .i64 (Cl.l y)], .i .i64 (Opx.t (O i))]
  [] (.tup [.agg [.i .i64 (Cl.s y), .i .i64 (Cl.b y), .i .i64 (Cl.p y), .i .i64 (Cl.q y), .i .i64 (Cl.n y), .b (Cl.o y), .i .i64 (Cm.k (Cl.c y)), .i .i64 (Cm.sv (Cl.c y)), .i
  .i64 (Cm.bt (Cl.c y)), .i .i64 (Cm.sq (Cl.c y)), .i .i64 (Cm.gn (Cl.c y)), .i .i64 (Cm.lk (Cl.c y)), .i .i64 (Cm.md (Cl.c y)), .i .i64 (Cm.ot (Cl.c y)), isv (Cm.mn (Cl.c y))
  (Cm.mf (Cl.c y)), .i .i64 (Cm.d (Cl.c y)), .i .i64 (Cl.f y), .i .i64 (Cl.l y)], .l0, .i .i64 e]) [] ∧ Con Try.prog 12 [.p 0 0] [some (clO x)] (.tup [.agg [.i .i64 (Cm.k c2),
  .i .i64 (Cm.sv c2), .i .i64 (Cm.bt c2), .i .i64 (Cm.sq c2), .i .i64 (Cm.gn c2), .i .i64 (Cm.lk c2), .i .i64 (Cm.md c2), .i .i64 (Cm.ot c2), isv (Cm.mn c2) (Cm.mf c2), .i .i64
  (Cm.d c2)], .b (Cl.o y)]) [.keep] ∧ True ∧ tt1 (e) ∧ tt1 (e) ∧ tt1 (e) ∧ Con Try.prog 21 [.l0, .l0] [] (.b true) [] ∧ tt1 (e) ∧ True ∧ tt0 (e) ∧ True ∧ True ∧ (!!Cl.o y ==
  Cl.o y) = true ∧ (!!Cl.o y == Cl.o y) = true ∧ True ∧ (!!Cl.o y == Cl.o y) = true ∧ (!!Cl.o y == Cl.o y) = true ∧ Con Try.prog 22 [.agg [.i .i64 (Cm.k c2), .i .i64 (Cm.sv
  c2), .i .i64 (Cm.bt c2), .i .i64 (Cm.sq c2), .i .i64 (Cm.gn c2), .i .i64 (Cm.lk c2), .i .i64 (Cm.md c2), .i .i64 (Cm.ot c2), isv (Cm.mn c2) (Cm.mf c2), .i .i64 (Cm.d c2)],
  .agg [.i .i64 (Cm.k (Cl.c y)), .i .i64 (Cm.sv (Cl.c y)), .i .i64 (Cm.bt (Cl.c y)), .i .i64 (Cm.sq (Cl.c y)), .i .i64 (Cm.gn (Cl.c y)), .i .i64 (Cm.lk (Cl.c y)), .i .i64
  (Cm.md (Cl.c y)), .i .i64 (Cm.ot (Cl.c y)), isv (Cm.mn (Cl.c y)) (Cm.mf (Cl.c y)), .i .i64 (Cm.d (Cl.c y))]] [] (.b true) [] ∧ (!!Cl.o y == Cl.o y) = true ∧ True ∧ (!Cl.o y
  == Cl.o y) = false ∧ Con Try.prog 14 [.p 0 0] [some (clO x)] (.i .i64 (Cl.q y)) [.keep] ∧ True ∧ tt0 (Cl.q y) ∧ rg (Int.ofNat i + 1) ∧ Lf) := by unfold LD LQ; kernel_rfl
theorem pb_lq (x : Cl) (x2 : Cl) (y : Cl) (y2 : Cl) (m2 : Mg) (n : Nat) (O : Nat → Opx) (c2 : Cm) (i : Nat) (h0 : decide (Int.ofNat i < Int.ofNat n) = true) (k1 : decide ((O
  i).k = 1) = true) : LD Try.prog (loopAt Try.prog 4 0) 173 2 [(6, .b false), (7, .p 0 0), (9, .p 1 0), (53, .sv 27 n (oxF O)), (54, .i .i64 (Int.ofNat n)), (55, .i .i64
  (Int.ofNat i))] [some (clO x), some (clM y)] (Orc.t (Orc.t (Orc.cal [0] (.tup [mg1 m2, .i .i64 0]) [.set (clO x2)] (Orc.cal [] (.tup [.agg [.i .i64 (Cl.s y2), .i .i64 (Cl.b
  y2), .i .i64 (Cl.p y2), .i .i64 (Cl.q y2), .i .i64 (Cl.n y2), .b (Cl.o y2), .i .i64 (Cm.k (Cl.c y2)), .i .i64 (Cm.sv (Cl.c y2)), .i .i64 (Cm.bt (Cl.c y2)), .i .i64 (Cm.sq
  (Cl.c y2)), .i .i64 (Cm.gn (Cl.c y2)), .i .i64 (Cm.lk (Cl.c y2)), .i .i64 (Cm.md (Cl.c y2)), .i .i64 (Cm.ot (Cl.c y2)), isv (Cm.mn (Cl.c y2)) (Cm.mf (Cl.c y2)), .i .i64 (Cm.d
  (Cl.c y2)), .i .i64 (Cl.f y2), .i .i64 (Cl.l y2)], mg1 m2, .i .i64 0]) [] (Orc.cal [0] (.tup [.agg [.i .i64 (Cm.k c2), .i .i64 (Cm.sv c2), .i .i64 (Cm.bt c2), .i .i64 (Cm.sq
  c2), .i .i64 (Cm.gn c2), .i .i64 (Cm.lk c2), .i .i64 (Cm.md c2), .i .i64 (Cm.ot c2), isv (Cm.mn c2) (Cm.mf c2), .i .i64 (Cm.d c2)], .b (Cl.o y2)]) [.keep] (oc 7 (Orc.cal []
  (.b true) [] (oc 7 (Orc.t (Orc.t (Orc.t (Orc.t (Orc.cal [] (.b true) [] (Orc.t (Orc.f (oc 2 (Orc.cal [0] (.i .i64 (Cl.q y2)) [.keep] (oc 4 (Orc.f Orc.z)))))))))))))))))))
  .nrm [0, 1] [(6, .b false), (7, .p 0 0), (9, .p 1 0), (53, .sv 27 n (oxF O)), (54, .i .i64 (Int.ofNat n)), (55, .i .i64 (Int.ofNat i + 1))] [some (clO x2), some (clM y2)] 4
  (fun Lf => decide (Int.ofNat i < Int.ofNat n) = true ∧ (0 ≤ Int.ofNat i ∧ Int.ofNat i < ↑n) ∧ True ∧ True ∧ decide (Opx.k (O i) = 1) = true ∧ True ∧ Con Try.prog 10 [.p 0 0,
  .i .i64 (Opx.t (O i))] [some (clO x)] (.tup [mg1 m2, .i .i64 0]) [.set (clO x2)] ∧ True ∧ Con Try.prog 16 [.agg [.i .i64 (Cl.s y), .i .i64 (Cl.b y), .i .i64 (Cl.p y), .i .i64
  (Cl.q y), .i .i64 (Cl.n y), .b (Cl.o y), .i .i64 (Cm.k (Cl.c y)), .i .i64 (Cm.sv (Cl.c y)), .i .i64 (Cm.bt (Cl.c y)), .i .i64 (Cm.sq (Cl.c y)), .i .i64 (Cm.gn (Cl.c y)), .i
  .i64 (Cm.lk (Cl.c y)), .i .i64 (Cm.md (Cl.c y)), .i .i64 (Cm.ot (Cl.c y)), isv (Cm.mn (Cl.c y)) (Cm.mf (Cl.c y)), .i .i64 (Cm.d (Cl.c y)), .i .i64 (Cl.f y), .i .i64 (Cl.l
  y)], .i .i64 (Opx.t (O i))] [] (.tup [.agg [.i .i64 (Cl.s y2), .i .i64 (Cl.b y2), .i .i64 (Cl.p y2), .i .i64 (Cl.q y2), .i .i64 (Cl.n y2), .b (Cl.o y2), .i .i64 (Cm.k (Cl.c
  y2)), .i .i64 (Cm.sv (Cl.c y2)), .i .i64 (Cm.bt (Cl.c y2)), .i .i64 (Cm.sq (Cl.c y2)), .i .i64 (Cm.gn (Cl.c y2)), .i .i64 (Cm.lk (Cl.c y2)), .i .i64 (Cm.md (Cl.c y2)), .i
  .i64 (Cm.ot (Cl.c y2)), isv (Cm.mn (Cl.c y2)) (Cm.mf (Cl.c y2)), .i .i64 (Cm.d (Cl.c y2)), .i .i64 (Cl.f y2), .i .i64 (Cl.l y2)], mg1 m2, .i .i64 0]) [] ∧ Con Try.prog 12 [.p
  0 0] [some (clO x2)] (.tup [.agg [.i .i64 (Cm.k c2), .i .i64 (Cm.sv c2), .i .i64 (Cm.bt c2), .i .i64 (Cm.sq c2), .i .i64 (Cm.gn c2), .i .i64 (Cm.lk c2), .i .i64 (Cm.md c2),
  .i .i64 (Cm.ot c2), isv (Cm.mn c2) (Cm.mf c2), .i .i64 (Cm.d c2)], .b (Cl.o y2)]) [.keep] ∧ True ∧ Con Try.prog 21 [mg1 m2, mg1 m2] [] (.b true) [] ∧ True ∧ True ∧ True ∧
  (!!Cl.o y2 == Cl.o y2) = true ∧ (!!Cl.o y2 == Cl.o y2) = true ∧ True ∧ (!!Cl.o y2 == Cl.o y2) = true ∧ (!!Cl.o y2 == Cl.o y2) = true ∧ Con Try.prog 22 [.agg [.i .i64 (Cm.k
  c2), .i .i64 (Cm.sv c2), .i .i64 (Cm.bt c2), .i .i64 (Cm.sq c2), .i .i64 (Cm.gn c2), .i .i64 (Cm.lk c2), .i .i64 (Cm.md c2), .i .i64 (Cm.ot c2), isv (Cm.mn c2) (Cm.mf c2), .i
  .i64 (Cm.d c2)], .agg [.i .i64 (Cm.k (Cl.c y2)), .i .i64 (Cm.sv (Cl.c y2)), .i .i64 (Cm.bt (Cl.c y2)), .i .i64 (Cm.sq (Cl.c y2)), .i .i64 (Cm.gn (Cl.c y2)), .i .i64 (Cm.lk
  (Cl.c y2)), .i .i64 (Cm.md (Cl.c y2)), .i .i64 (Cm.ot (Cl.c y2)), isv (Cm.mn (Cl.c y2)) (Cm.mf (Cl.c y2)), .i .i64 (Cm.d (Cl.c y2))]] [] (.b true) [] ∧ (!!Cl.o y2 == Cl.o y2)
  = true ∧ True ∧ (!Cl.o y2 == Cl.o y2) = false ∧ Con Try.prog 14 [.p 0 0] [some (clO x2)] (.i .i64 (Cl.q y2)) [.keep] ∧ True ∧ tt0 (Cl.q y2) ∧ rg (Int.ofNat i + 1) ∧ Lf)
  := by unfold LD LQ; kernel_rfl
theorem pc_lq (x : Cl) (y : Cl) (n : Nat) (O : Nat → Opx) (c2 : Cm) (i : Nat) (h0 : decide (Int.ofNat i < Int.ofNat n) = true) (k1 : decide ((O i).k = 1) = false) (k2 : decide
  ((O i).k = 2) = true) : LD Try.prog (loopAt Try.prog 4 0) 173 2 [(6, .b false), (7, .p 0 0), (9, .p 1 0), (53, .sv 27 n (oxF O)), (54, .i .i64 (Int.ofNat n)), (55, .i .i64
  (Int.ofNat i))] [some (clO x), some (clM y)] (Orc.t (Orc.f (Orc.t (Orc.cal [] (.agg [.i .i64 (Mg.k (Opx.m (O i))), .i .i64 (Mg.fr (Opx.m (O i))), .i .i64 (Mg.to (Opx.m (O
  i))), .i .i64 (Mg.bl (Opx.m (O i))), .i .i64 (Mg.sl (Opx.m (O i))), .i .i64 (Mg.ab (Opx.m (O i))), .s (Mg.av (Opx.m (O i))), .s (Mg.st (Opx.m (O i))), .i .i64 (Cm.k (Mg.c
  (Opx.m (O i)))), .i .i64 (Cm.sv (Mg.c (Opx.m (O i)))), .i .i64 (Cm.bt (Mg.c (Opx.m (O i)))), .i .i64 (Cm.sq (Mg.c (Opx.m (O i)))), .i .i64 (Cm.gn (Mg.c (Opx.m (O i)))), .i
  .i64 (Cm.lk (Mg.c (Opx.m (O i)))), .i .i64 (Cm.md (Mg.c (Opx.m (O i)))), .i .i64 (Cm.ot (Mg.c (Opx.m (O i)))), isv (Cm.mn (Mg.c (Opx.m (O i)))) (Cm.mf (Mg.c (Opx.m (O i)))),
  .i .i64 (Cm.d (Mg.c (Opx.m (O i)))), .i .i64 (Mb.x (Mg.v (Opx.m (O i))) 6), .i .i64 (Mb.x (Mg.v (Opx.m (O i))) 7), .i .i64 (Mb.x (Mg.v (Opx.m (O i))) 8), isv (Mb.mn (Mg.v
  (Opx.m (O i)))) (Mb.mf (Mg.v (Opx.m (O i)))), isv (Mb.sn (Mg.v (Opx.m (O i)))) (Mb.sf (Mg.v (Opx.m (O i)))), svN (Mb.hn (Mg.v (Opx.m (O i)))) (Mb.hA (Mg.v (Opx.m (O i))))
  (Mb.hM (Mg.v (Opx.m (O i)))) (Mb.hW (Mg.v (Opx.m (O i)))), svN (Mb.dn (Mg.v (Opx.m (O i)))) (Mb.dA (Mg.v (Opx.m (O i)))) (Mb.dM (Mg.v (Opx.m (O i)))) (Mb.dW (Mg.v (Opx.m (O
  i))))]) [] (Orc.cal [0] (.tup [.agg (vwL mb0), .i .i64 0, .b false]) [.keep] (Orc.cal [] (.tup [.agg [.i .i64 (Cl.s y), .i .i64 (Cl.b y), .i .i64 (Cl.p y), .i .i64 (Cl.q y),
  .i .i64 (Cl.n y), .b (Cl.o y), .i .i64 (Cm.k (Cl.c y)), .i .i64 (Cm.sv (Cl.c y)), .i .i64 (Cm.bt (Cl.c y)), .i .i64 (Cm.sq (Cl.c y)), .i .i64 (Cm.gn (Cl.c y)), .i .i64 (Cm.lk
  (Cl.c y)), .i .i64 (Cm.md (Cl.c y)), .i .i64 (Cm.ot (Cl.c y)), isv (Cm.mn (Cl.c y)) (Cm.mf (Cl.c y)), .i .i64 (Cm.d (Cl.c y)), .i .i64 (Cl.f y), .i .i64 (Cl.l y)], .agg (vwL
  mb0), .i .i64 0, .b false]) [] (oc 7 (Orc.cal [] (.b true) [] (Orc.c (Orc.cal [0] (.tup [.agg [.i .i64 (Cm.k c2), .i .i64 (Cm.sv c2), .i .i64 (Cm.bt c2), .i .i64 (Cm.sq c2),
  .i .i64 (Cm.gn c2), .i .i64 (Cm.lk c2), .i .i64 (Cm.md c2), .i .i64 (Cm.ot c2), isv (Cm.mn c2) (Cm.mf c2), .i .i64 (Cm.d c2)], .b (Cl.o y)]) [.keep] (oc 7 (Orc.cal [] (.b
  true) [] (oc 7 (Orc.t (Orc.t (Orc.t (Orc.t (Orc.cal [] (.b true) [] (Orc.t (Orc.f (oc 2 (Orc.cal [0] (.i .i64 (Cl.q y)) [.keep] (oc 4 (Orc.f Orc.z))))))))))))))))))))))))
  .nrm [0, 1] [(6, .b false), (7, .p 0 0), (9, .p 1 0), (53, .sv 27 n (oxF O)), (54, .i .i64 (Int.ofNat n)), (55, .i .i64 (Int.ofNat i + 1))] [some (clO x), some (clM y)] 7
  (fun Lf => decide (Int.ofNat i < Int.ofNat n) = true ∧ (0 ≤ Int.ofNat i ∧ Int.ofNat i < ↑n) ∧ True ∧ True ∧ decide (Opx.k (O i) = 1) = false ∧ decide (Opx.k (O i) = 2) = true
  ∧ True ∧ Con Try.prog 17 [.agg [.i .i64 (Mg.k (Opx.m (O i))), .i .i64 (Mg.fr (Opx.m (O i))), .i .i64 (Mg.to (Opx.m (O i))), .i .i64 (Mg.bl (Opx.m (O i))), .i .i64 (Mg.sl
  (Opx.m (O i))), .i .i64 (Mg.ab (Opx.m (O i))), .s (Mg.av (Opx.m (O i))), .s (Mg.st (Opx.m (O i))), .i .i64 (Cm.k (Mg.c (Opx.m (O i)))), .i .i64 (Cm.sv (Mg.c (Opx.m (O i)))),
  .i .i64 (Cm.bt (Mg.c (Opx.m (O i)))), .i .i64 (Cm.sq (Mg.c (Opx.m (O i)))), .i .i64 (Cm.gn (Mg.c (Opx.m (O i)))), .i .i64 (Cm.lk (Mg.c (Opx.m (O i)))), .i .i64 (Cm.md (Mg.c
  (Opx.m (O i)))), .i .i64 (Cm.ot (Mg.c (Opx.m (O i)))), isv (Cm.mn (Mg.c (Opx.m (O i)))) (Cm.mf (Mg.c (Opx.m (O i)))), .i .i64 (Cm.d (Mg.c (Opx.m (O i)))), .i .i64 (Mb.x (Mg.v
  (Opx.m (O i))) 6), .i .i64 (Mb.x (Mg.v (Opx.m (O i))) 7), .i .i64 (Mb.x (Mg.v (Opx.m (O i))) 8), isv (Mb.mn (Mg.v (Opx.m (O i)))) (Mb.mf (Mg.v (Opx.m (O i)))), isv (Mb.sn
  (Mg.v (Opx.m (O i)))) (Mb.sf (Mg.v (Opx.m (O i)))), svN (Mb.hn (Mg.v (Opx.m (O i)))) (Mb.hA (Mg.v (Opx.m (O i)))) (Mb.hM (Mg.v (Opx.m (O i)))) (Mb.hW (Mg.v (Opx.m (O i)))),
  svN (Mb.dn (Mg.v (Opx.m (O i)))) (Mb.dA (Mg.v (Opx.m (O i)))) (Mb.dM (Mg.v (Opx.m (O i)))) (Mb.dW (Mg.v (Opx.m (O i))))]] [] (.agg [.i .i64 (Mg.k (Opx.m (O i))), .i .i64
  (Mg.fr (Opx.m (O i))), .i .i64 (Mg.to (Opx.m (O i))), .i .i64 (Mg.bl (Opx.m (O i))), .i .i64 (Mg.sl (Opx.m (O i))), .i .i64 (Mg.ab (Opx.m (O i))), .s (Mg.av (Opx.m (O i))),
  .s (Mg.st (Opx.m (O i))), .i .i64 (Cm.k (Mg.c (Opx.m (O i)))), .i .i64 (Cm.sv (Mg.c (Opx.m (O i)))), .i .i64 (Cm.bt (Mg.c (Opx.m (O i)))), .i .i64 (Cm.sq (Mg.c (Opx.m (O
  i)))), .i .i64 (Cm.gn (Mg.c (Opx.m (O i)))), .i .i64 (Cm.lk (Mg.c (Opx.m (O i)))), .i .i64 (Cm.md (Mg.c (Opx.m (O i)))), .i .i64 (Cm.ot (Mg.c (Opx.m (O i)))), isv (Cm.mn
  (Mg.c (Opx.m (O i)))) (Cm.mf (Mg.c (Opx.m (O i)))), .i .i64 (Cm.d (Mg.c (Opx.m (O i)))), .i .i64 (Mb.x (Mg.v (Opx.m (O i))) 6), .i .i64 (Mb.x (Mg.v (Opx.m (O i))) 7), .i .i64
  (Mb.x (Mg.v (Opx.m (O i))) 8), isv (Mb.mn (Mg.v (Opx.m (O i)))) (Mb.mf (Mg.v (Opx.m (O i)))), isv (Mb.sn (Mg.v (Opx.m (O i)))) (Mb.sf (Mg.v (Opx.m (O i)))), svN (Mb.hn (Mg.v
  (Opx.m (O i)))) (Mb.hA (Mg.v (Opx.m (O i)))) (Mb.hM (Mg.v (Opx.m (O i)))) (Mb.hW (Mg.v (Opx.m (O i)))), svN (Mb.dn (Mg.v (Opx.m (O i)))) (Mb.dA (Mg.v (Opx.m (O i)))) (Mb.dM
  (Mg.v (Opx.m (O i)))) (Mb.dW (Mg.v (Opx.m (O i))))]) [] ∧ Con Try.prog 11 [.p 0 0, .agg [.i .i64 (Mg.k (Opx.m (O i))), .i .i64 (Mg.fr (Opx.m (O i))), .i .i64 (Mg.to (Opx.m (O
  i))), .i .i64 (Mg.bl (Opx.m (O i))), .i .i64 (Mg.sl (Opx.m (O i))), .i .i64 (Mg.ab (Opx.m (O i))), .s (Mg.av (Opx.m (O i))), .s (Mg.st (Opx.m (O i))), .i .i64 (Cm.k (Mg.c
  (Opx.m (O i)))), .i .i64 (Cm.sv (Mg.c (Opx.m (O i)))), .i .i64 (Cm.bt (Mg.c (Opx.m (O i)))), .i .i64 (Cm.sq (Mg.c (Opx.m (O i)))), .i .i64 (Cm.gn (Mg.c (Opx.m (O i)))), .i
  .i64 (Cm.lk (Mg.c (Opx.m (O i)))), .i .i64 (Cm.md (Mg.c (Opx.m (O i)))), .i .i64 (Cm.ot (Mg.c (Opx.m (O i)))), isv (Cm.mn (Mg.c (Opx.m (O i)))) (Cm.mf (Mg.c (Opx.m (O i)))),
  .i .i64 (Cm.d (Mg.c (Opx.m (O i)))), .i .i64 (Mb.x (Mg.v (Opx.m (O i))) 6), .i .i64 (Mb.x (Mg.v (Opx.m (O i))) 7), .i .i64 (Mb.x (Mg.v (Opx.m (O i))) 8), isv (Mb.mn (Mg.v
  (Opx.m (O i)))) (Mb.mf (Mg.v (Opx.m (O i)))), isv (Mb.sn (Mg.v (Opx.m (O i)))) (Mb.sf (Mg.v (Opx.m (O i)))), svN (Mb.hn (Mg.v (Opx.m (O i)))) (Mb.hA (Mg.v (Opx.m (O i))))
  (Mb.hM (Mg.v (Opx.m (O i)))) (Mb.hW (Mg.v (Opx.m (O i)))), svN (Mb.dn (Mg.v (Opx.m (O i)))) (Mb.dA (Mg.v (Opx.m (O i)))) (Mb.dM (Mg.v (Opx.m (O i)))) (Mb.dW (Mg.v (Opx.m (O
  i))))]] [some (clO x)] (.tup [.agg (vwL mb0), .i .i64 0, .b false]) [.keep] ∧ True ∧ Con Try.prog 18 [.agg [.i .i64 (Cl.s y), .i .i64 (Cl.b y), .i .i64 (Cl.p y), .i .i64
  (Cl.q y), .i .i64 (Cl.n y), .b (Cl.o y), .i .i64 (Cm.k (Cl.c y)), .i .i64 (Cm.sv (Cl.c y)), .i .i64 (Cm.bt (Cl.c y)), .i .i64 (Cm.sq (Cl.c y)), .i .i64 (Cm.gn (Cl.c y)), .i
  .i64 (Cm.lk (Cl.c y)), .i .i64 (Cm.md (Cl.c y)), .i .i64 (Cm.ot (Cl.c y)), isv (Cm.mn (Cl.c y)) (Cm.mf (Cl.c y)), .i .i64 (Cm.d (Cl.c y)), .i .i64 (Cl.f y), .i .i64 (Cl.l
  y)], .agg [.i .i64 (Mg.k (Opx.m (O i))), .i .i64 (Mg.fr (Opx.m (O i))), .i .i64 (Mg.to (Opx.m (O i))), .i .i64 (Mg.bl (Opx.m (O i))), .i .i64 (Mg.sl (Opx.m (O i))), .i .i64
  (Mg.ab (Opx.m (O i))), .s (Mg.av (Opx.m (O i))), .s (Mg.st (Opx.m (O i))), .i .i64 (Cm.k (Mg.c (Opx.m (O i)))), .i .i64 (Cm.sv (Mg.c (Opx.m (O i)))), .i .i64 (Cm.bt (Mg.c
  (Opx.m (O i)))), .i .i64 (Cm.sq (Mg.c (Opx.m (O i)))), .i .i64 (Cm.gn (Mg.c (Opx.m (O i)))), .i .i64 (Cm.lk (Mg.c (Opx.m (O i)))), .i .i64 (Cm.md (Mg.c (Opx.m (O i)))), .i
  .i64 (Cm.ot (Mg.c (Opx.m (O i)))), isv (Cm.mn (Mg.c (Opx.m (O i)))) (Cm.mf (Mg.c (Opx.m (O i)))), .i .i64 (Cm.d (Mg.c (Opx.m (O i)))), .i .i64 (Mb.x (Mg.v (Opx.m (O i))) 6),
  .i .i64 (Mb.x (Mg.v (Opx.m (O i))) 7), .i .i64 (Mb.x (Mg.v (Opx.m (O i))) 8), isv (Mb.mn (Mg.v (Opx.m (O i)))) (Mb.mf (Mg.v (Opx.m (O i)))), isv (Mb.sn (Mg.v (Opx.m (O i))))
  (Mb.sf (Mg.v (Opx.m (O i)))), svN (Mb.hn (Mg.v (Opx.m (O i)))) (Mb.hA (Mg.v (Opx.m (O i)))) (Mb.hM (Mg.v (Opx.m (O i)))) (Mb.hW (Mg.v (Opx.m (O i)))), svN (Mb.dn (Mg.v (Opx.m
  (O i)))) (Mb.dA (Mg.v (Opx.m (O i)))) (Mb.dM (Mg.v (Opx.m (O i)))) (Mb.dW (Mg.v (Opx.m (O i))))]] [] (.tup [.agg [.i .i64 (Cl.s y), .i .i64 (Cl.b y), .i .i64 (Cl.p y), .i
  .i64 (Cl.q y), .i .i64 (Cl.n y), .b (Cl.o y), .i .i64 (Cm.k (Cl.c y)), .i .i64 (Cm.sv (Cl.c y)), .i .i64 (Cm.bt (Cl.c y)), .i .i64 (Cm.sq (Cl.c y)), .i .i64 (Cm.gn (Cl.c y)),
  .i .i64 (Cm.lk (Cl.c y)), .i .i64 (Cm.md (Cl.c y)), .i .i64 (Cm.ot (Cl.c y)), isv (Cm.mn (Cl.c y)) (Cm.mf (Cl.c y)), .i .i64 (Cm.d (Cl.c y)), .i .i64 (Cl.f y), .i .i64 (Cl.l
  y)], .agg (vwL mb0), .i .i64 0, .b false]) [] ∧ True ∧ Con Try.prog 19 [.agg (vwL mb0), .agg (vwL mb0)] [] (.b true) [] ∧ Con Try.prog 12 [.p 0 0] [some (clO x)] (.tup [.agg
  [.i .i64 (Cm.k c2), .i .i64 (Cm.sv c2), .i .i64 (Cm.bt c2), .i .i64 (Cm.sq c2), .i .i64 (Cm.gn c2), .i .i64 (Cm.lk c2), .i .i64 (Cm.md c2), .i .i64 (Cm.ot c2), isv (Cm.mn c2)
  (Cm.mf c2), .i .i64 (Cm.d c2)], .b (Cl.o y)]) [.keep] ∧ True ∧ Con Try.prog 21 [.l0, .l0] [] (.b true) [] ∧ True ∧ True ∧ True ∧ (!!Cl.o y == Cl.o y) = true ∧ (!!Cl.o y ==
  Cl.o y) = true ∧ True ∧ (!!Cl.o y == Cl.o y) = true ∧ (!!Cl.o y == Cl.o y) = true ∧ Con Try.prog 22 [.agg [.i .i64 (Cm.k c2), .i .i64 (Cm.sv c2), .i .i64 (Cm.bt c2), .i .i64
  (Cm.sq c2), .i .i64 (Cm.gn c2), .i .i64 (Cm.lk c2), .i .i64 (Cm.md c2), .i .i64 (Cm.ot c2), isv (Cm.mn c2) (Cm.mf c2), .i .i64 (Cm.d c2)], .agg [.i .i64 (Cm.k (Cl.c y)), .i
  .i64 (Cm.sv (Cl.c y)), .i .i64 (Cm.bt (Cl.c y)), .i .i64 (Cm.sq (Cl.c y)), .i .i64 (Cm.gn (Cl.c y)), .i .i64 (Cm.lk (Cl.c y)), .i .i64 (Cm.md (Cl.c y)), .i .i64 (Cm.ot (Cl.c
  y)), isv (Cm.mn (Cl.c y)) (Cm.mf (Cl.c y)), .i .i64 (Cm.d (Cl.c y))]] [] (.b true) [] ∧ (!!Cl.o y == Cl.o y) = true ∧ True ∧ (!Cl.o y == Cl.o y) = false ∧ Con Try.prog 14 [.p
  0 0] [some (clO x)] (.i .i64 (Cl.q y)) [.keep] ∧ True ∧ tt0 (Cl.q y) ∧ rg (Int.ofNat i + 1) ∧ Lf) := by unfold LD LQ; kernel_rfl
theorem pd_lq (x : Cl) (x2 : Cl) (y : Cl) (y2 : Cl) (n : Nat) (O : Nat → Opx) (fi : Int) (c2 : Cm) (i : Nat) (h0 : decide (Int.ofNat i < Int.ofNat n) = true) (k1 : decide ((O
  i).k = 1) = false) (k2 : decide ((O i).k = 2) = true) : LD Try.prog (loopAt Try.prog 4 0) 173 2 [(6, .b false), (7, .p 0 0), (9, .p 1 0), (53, .sv 27 n (oxF O)), (54, .i .i64
  (Int.ofNat n)), (55, .i .i64 (Int.ofNat i))] [some (clO x), some (clM y)] (Orc.t (Orc.f (Orc.t (Orc.cal [] (.agg [.i .i64 (Mg.k (Opx.m (O i))), .i .i64 (Mg.fr (Opx.m (O i))),
  .i .i64 (Mg.to (Opx.m (O i))), .i .i64 (Mg.bl (Opx.m (O i))), .i .i64 (Mg.sl (Opx.m (O i))), .i .i64 (Mg.ab (Opx.m (O i))), .s (Mg.av (Opx.m (O i))), .s (Mg.st (Opx.m (O
  i))), .i .i64 (Cm.k (Mg.c (Opx.m (O i)))), .i .i64 (Cm.sv (Mg.c (Opx.m (O i)))), .i .i64 (Cm.bt (Mg.c (Opx.m (O i)))), .i .i64 (Cm.sq (Mg.c (Opx.m (O i)))), .i .i64 (Cm.gn
  (Mg.c (Opx.m (O i)))), .i .i64 (Cm.lk (Mg.c (Opx.m (O i)))), .i .i64 (Cm.md (Mg.c (Opx.m (O i)))), .i .i64 (Cm.ot (Mg.c (Opx.m (O i)))), isv (Cm.mn (Mg.c (Opx.m (O i))))
  (Cm.mf (Mg.c (Opx.m (O i)))), .i .i64 (Cm.d (Mg.c (Opx.m (O i)))), .i .i64 (Mb.x (Mg.v (Opx.m (O i))) 6), .i .i64 (Mb.x (Mg.v (Opx.m (O i))) 7), .i .i64 (Mb.x (Mg.v (Opx.m (O
  i))) 8), isv (Mb.mn (Mg.v (Opx.m (O i)))) (Mb.mf (Mg.v (Opx.m (O i)))), isv (Mb.sn (Mg.v (Opx.m (O i)))) (Mb.sf (Mg.v (Opx.m (O i)))), svN (Mb.hn (Mg.v (Opx.m (O i)))) (Mb.hA
  (Mg.v (Opx.m (O i)))) (Mb.hM (Mg.v (Opx.m (O i)))) (Mb.hW (Mg.v (Opx.m (O i)))), svN (Mb.dn (Mg.v (Opx.m (O i)))) (Mb.dA (Mg.v (Opx.m (O i)))) (Mb.dM (Mg.v (Opx.m (O i))))
  (Mb.dW (Mg.v (Opx.m (O i))))]) [] (Orc.cal [0] (.tup [.agg [.i .i64 (Mb.x (Mg.v (Opx.m (O i))) 6), .i .i64 (Mb.x (Mg.v (Opx.m (O i))) 7), .i .i64 (Mb.x (Mg.v (Opx.m (O i)))
  8), isv (Mb.mn (Mg.v (Opx.m (O i)))) (Mb.mf (Mg.v (Opx.m (O i)))), isv (Mb.sn (Mg.v (Opx.m (O i)))) (Mb.sf (Mg.v (Opx.m (O i)))), svN (Mb.hn (Mg.v (Opx.m (O i)))) (Mb.hA
  (Mg.v (Opx.m (O i)))) (Mb.hM (Mg.v (Opx.m (O i)))) (Mb.hW (Mg.v (Opx.m (O i)))), svN (Mb.dn (Mg.v (Opx.m (O i)))) (Mb.dA (Mg.v (Opx.m (O i)))) (Mb.dM (Mg.v (Opx.m (O i))))
  (Mb.dW (Mg.v (Opx.m (O i))))], .i .i64 fi, .b true]) [.set (clO x2)] (Orc.cal [] (.tup [.agg [.i .i64 (Cl.s y2), .i .i64 (Cl.b y2), .i .i64 (Cl.p y2), .i .i64 (Cl.q y2), .i
  .i64 (Cl.n y2), .b (Cl.o y2), .i .i64 (Cm.k (Cl.c y2)), .i .i64 (Cm.sv (Cl.c y2)), .i .i64 (Cm.bt (Cl.c y2)), .i .i64 (Cm.sq (Cl.c y2)), .i .i64 (Cm.gn (Cl.c y2)), .i .i64
  (Cm.lk (Cl.c y2)), .i .i64 (Cm.md (Cl.c y2)), .i .i64 (Cm.ot (Cl.c y2)), isv (Cm.mn (Cl.c y2)) (Cm.mf (Cl.c y2)), .i .i64 (Cm.d (Cl.c y2)), .i .i64 (Cl.f y2), .i .i64 (Cl.l
  y2)], .agg [.i .i64 (Mb.x (Mg.v (Opx.m (O i))) 6), .i .i64 (Mb.x (Mg.v (Opx.m (O i))) 7), .i .i64 (Mb.x (Mg.v (Opx.m (O i))) 8), isv (Mb.mn (Mg.v (Opx.m (O i)))) (Mb.mf (Mg.v
  (Opx.m (O i)))), isv (Mb.sn (Mg.v (Opx.m (O i)))) (Mb.sf (Mg.v (Opx.m (O i)))), svN (Mb.hn (Mg.v (Opx.m (O i)))) (Mb.hA (Mg.v (Opx.m (O i)))) (Mb.hM (Mg.v (Opx.m (O i))))
  (Mb.hW (Mg.v (Opx.m (O i)))), svN (Mb.dn (Mg.v (Opx.m (O i)))) (Mb.dA (Mg.v (Opx.m (O i)))) (Mb.dM (Mg.v (Opx.m (O i)))) (Mb.dW (Mg.v (Opx.m (O i))))], .i .i64 fi, .b true])
  [] (oc 4 (Orc.t (Orc.t (Orc.t (Orc.cal [] (.b true) [] (Orc.t (Orc.cal [0] (.tup [.agg [.i .i64 (Cm.k c2), .i .i64 (Cm.sv c2), .i .i64 (Cm.bt c2), .i .i64 (Cm.sq c2), .i .i64
  (Cm.gn c2), .i .i64 (Cm.lk c2), .i .i64 (Cm.md c2), .i .i64 (Cm.ot c2), isv (Cm.mn c2) (Cm.mf c2), .i .i64 (Cm.d c2)], .b (Cl.o y2)]) [.keep] (oc 7 (Orc.cal [] (.b true) []
  (oc 7 (Orc.t (Orc.t (Orc.t (Orc.t (Orc.cal [] (.b true) [] (Orc.t (Orc.f (oc 2 (Orc.cal [0] (.i .i64 (Cl.q y2)) [.keep] (oc 4 (Orc.f Orc.z))))))))))))))))))))))))))) .nrm [0,
  1] [(6, .b false), (7, .p 0 0), (9, .p 1 0), (53, .sv 27 n (oxF O)), (54, .i .i64 (Int.ofNat n)), (55, .i .i64 (Int.ofNat i + 1))] [some (clO x2), some (clM y2)] 7 (fun Lf =>
  decide (Int.ofNat i < Int.ofNat n) = true ∧ (0 ≤ Int.ofNat i ∧ Int.ofNat i < ↑n) ∧ True ∧ True ∧ decide (Opx.k (O i) = 1) = false ∧ decide (Opx.k (O i) = 2) = true ∧ True ∧
  Con Try.prog 17 [.agg [.i .i64 (Mg.k (Opx.m (O i))), .i .i64 (Mg.fr (Opx.m (O i))), .i .i64 (Mg.to (Opx.m (O i))), .i .i64 (Mg.bl (Opx.m (O i))), .i .i64 (Mg.sl (Opx.m (O
  i))), .i .i64 (Mg.ab (Opx.m (O i))), .s (Mg.av (Opx.m (O i))), .s (Mg.st (Opx.m (O i))), .i .i64 (Cm.k (Mg.c (Opx.m (O i)))), .i .i64 (Cm.sv (Mg.c (Opx.m (O i)))), .i .i64
  (Cm.bt (Mg.c (Opx.m (O i)))), .i .i64 (Cm.sq (Mg.c (Opx.m (O i)))), .i .i64 (Cm.gn (Mg.c (Opx.m (O i)))), .i .i64 (Cm.lk (Mg.c (Opx.m (O i)))), .i .i64 (Cm.md (Mg.c (Opx.m (O
  i)))), .i .i64 (Cm.ot (Mg.c (Opx.m (O i)))), isv (Cm.mn (Mg.c (Opx.m (O i)))) (Cm.mf (Mg.c (Opx.m (O i)))), .i .i64 (Cm.d (Mg.c (Opx.m (O i)))), .i .i64 (Mb.x (Mg.v (Opx.m (O
  i))) 6), .i .i64 (Mb.x (Mg.v (Opx.m (O i))) 7), .i .i64 (Mb.x (Mg.v (Opx.m (O i))) 8), isv (Mb.mn (Mg.v (Opx.m (O i)))) (Mb.mf (Mg.v (Opx.m (O i)))), isv (Mb.sn (Mg.v (Opx.m
  (O i)))) (Mb.sf (Mg.v (Opx.m (O i)))), svN (Mb.hn (Mg.v (Opx.m (O i)))) (Mb.hA (Mg.v (Opx.m (O i)))) (Mb.hM (Mg.v (Opx.m (O i)))) (Mb.hW (Mg.v (Opx.m (O i)))), svN (Mb.dn
  (Mg.v (Opx.m (O i)))) (Mb.dA (Mg.v (Opx.m (O i)))) (Mb.dM (Mg.v (Opx.m (O i)))) (Mb.dW (Mg.v (Opx.m (O i))))]] [] (.agg [.i .i64 (Mg.k (Opx.m (O i))), .i .i64 (Mg.fr (Opx.m
  (O i))), .i .i64 (Mg.to (Opx.m (O i))), .i .i64 (Mg.bl (Opx.m (O i))), .i .i64 (Mg.sl (Opx.m (O i))), .i .i64 (Mg.ab (Opx.m (O i))), .s (Mg.av (Opx.m (O i))), .s (Mg.st
  (Opx.m (O i))), .i .i64 (Cm.k (Mg.c (Opx.m (O i)))), .i .i64 (Cm.sv (Mg.c (Opx.m (O i)))), .i .i64 (Cm.bt (Mg.c (Opx.m (O i)))), .i .i64 (Cm.sq (Mg.c (Opx.m (O i)))), .i .i64
  (Cm.gn (Mg.c (Opx.m (O i)))), .i .i64 (Cm.lk (Mg.c (Opx.m (O i)))), .i .i64 (Cm.md (Mg.c (Opx.m (O i)))), .i .i64 (Cm.ot (Mg.c (Opx.m (O i)))), isv (Cm.mn (Mg.c (Opx.m (O
  i)))) (Cm.mf (Mg.c (Opx.m (O i)))), .i .i64 (Cm.d (Mg.c (Opx.m (O i)))), .i .i64 (Mb.x (Mg.v (Opx.m (O i))) 6), .i .i64 (Mb.x (Mg.v (Opx.m (O i))) 7), .i .i64 (Mb.x (Mg.v
  (Opx.m (O i))) 8), isv (Mb.mn (Mg.v (Opx.m (O i)))) (Mb.mf (Mg.v (Opx.m (O i)))), isv (Mb.sn (Mg.v (Opx.m (O i)))) (Mb.sf (Mg.v (Opx.m (O i)))), svN (Mb.hn (Mg.v (Opx.m (O
  i)))) (Mb.hA (Mg.v (Opx.m (O i)))) (Mb.hM (Mg.v (Opx.m (O i)))) (Mb.hW (Mg.v (Opx.m (O i)))), svN (Mb.dn (Mg.v (Opx.m (O i)))) (Mb.dA (Mg.v (Opx.m (O i)))) (Mb.dM (Mg.v
  (Opx.m (O i)))) (Mb.dW (Mg.v (Opx.m (O i))))]) [] ∧ Con Try.prog 11 [.p 0 0, .agg [.i .i64 (Mg.k (Opx.m (O i))), .i .i64 (Mg.fr (Opx.m (O i))), .i .i64 (Mg.to (Opx.m (O i))),
  .i .i64 (Mg.bl (Opx.m (O i))), .i .i64 (Mg.sl (Opx.m (O i))), .i .i64 (Mg.ab (Opx.m (O i))), .s (Mg.av (Opx.m (O i))), .s (Mg.st (Opx.m (O i))), .i .i64 (Cm.k (Mg.c (Opx.m (O
  i)))), .i .i64 (Cm.sv (Mg.c (Opx.m (O i)))), .i .i64 (Cm.bt (Mg.c (Opx.m (O i)))), .i .i64 (Cm.sq (Mg.c (Opx.m (O i)))), .i .i64 (Cm.gn (Mg.c (Opx.m (O i)))), .i .i64 (Cm.lk
  (Mg.c (Opx.m (O i)))), .i .i64 (Cm.md (Mg.c (Opx.m (O i)))), .i .i64 (Cm.ot (Mg.c (Opx.m (O i)))), isv (Cm.mn (Mg.c (Opx.m (O i)))) (Cm.mf (Mg.c (Opx.m (O i)))), .i .i64
  (Cm.d (Mg.c (Opx.m (O i)))), .i .i64 (Mb.x (Mg.v (Opx.m (O i))) 6), .i .i64 (Mb.x (Mg.v (Opx.m (O i))) 7), .i .i64 (Mb.x (Mg.v (Opx.m (O i))) 8), isv (Mb.mn (Mg.v (Opx.m (O
  i)))) (Mb.mf (Mg.v (Opx.m (O i)))), isv (Mb.sn (Mg.v (Opx.m (O i)))) (Mb.sf (Mg.v (Opx.m (O i)))), svN (Mb.hn (Mg.v (Opx.m (O i)))) (Mb.hA (Mg.v (Opx.m (O i)))) (Mb.hM (Mg.v
  (Opx.m (O i)))) (Mb.hW (Mg.v (Opx.m (O i)))), svN (Mb.dn (Mg.v (Opx.m (O i)))) (Mb.dA (Mg.v (Opx.m (O i)))) (Mb.dM (Mg.v (Opx.m (O i)))) (Mb.dW (Mg.v (Opx.m (O i))))]] [some
  (clO x)] (.tup [.agg [.i .i64 (Mb.x (Mg.v (Opx.m (O i))) 6), .i .i64 (Mb.x (Mg.v (Opx.m (O i))) 7), .i .i64 (Mb.x (Mg.v (Opx.m (O i))) 8), isv (Mb.mn (Mg.v (Opx.m (O i))))
  (Mb.mf (Mg.v (Opx.m (O i)))), isv (Mb.sn (Mg.v (Opx.m (O i)))) (Mb.sf (Mg.v (Opx.m (O i)))), svN (Mb.hn (Mg.v (Opx.m (O i)))) (Mb.hA (Mg.v (Opx.m (O i)))) (Mb.hM (Mg.v (Opx.m
  (O i)))) (Mb.hW (Mg.v (Opx.m (O i)))), svN (Mb.dn (Mg.v (Opx.m (O i)))) (Mb.dA (Mg.v (Opx.m (O i)))) (Mb.dM (Mg.v (Opx.m (O i)))) (Mb.dW (Mg.v (Opx.m (O i))))], .i .i64 fi,
  .b true]) [.set (clO x2)] ∧ True ∧ Con Try.prog 18 [.agg [.i .i64 (Cl.s y), .i .i64 (Cl.b y), .i .i64 (Cl.p y), .i .i64 (Cl.q y), .i .i64 (Cl.n y), .b (Cl.o y), .i .i64 (Cm.k
  (Cl.c y)), .i .i64 (Cm.sv (Cl.c y)), .i .i64 (Cm.bt (Cl.c y)), .i .i64 (Cm.sq (Cl.c y)), .i .i64 (Cm.gn (Cl.c y)), .i .i64 (Cm.lk (Cl.c y)), .i .i64 (Cm.md (Cl.c y)), .i .i64
  (Cm.ot (Cl.c y)), isv (Cm.mn (Cl.c y)) (Cm.mf (Cl.c y)), .i .i64 (Cm.d (Cl.c y)), .i .i64 (Cl.f y), .i .i64 (Cl.l y)], .agg [.i .i64 (Mg.k (Opx.m (O i))), .i .i64 (Mg.fr
  (Opx.m (O i))), .i .i64 (Mg.to (Opx.m (O i))), .i .i64 (Mg.bl (Opx.m (O i))), .i .i64 (Mg.sl (Opx.m (O i))), .i .i64 (Mg.ab (Opx.m (O i))), .s (Mg.av (Opx.m (O i))), .s
  (Mg.st (Opx.m (O i))), .i .i64 (Cm.k (Mg.c (Opx.m (O i)))), .i .i64 (Cm.sv (Mg.c (Opx.m (O i)))), .i .i64 (Cm.bt (Mg.c (Opx.m (O i)))), .i .i64 (Cm.sq (Mg.c (Opx.m (O i)))),
  .i .i64 (Cm.gn (Mg.c (Opx.m (O i)))), .i .i64 (Cm.lk (Mg.c (Opx.m (O i)))), .i .i64 (Cm.md (Mg.c (Opx.m (O i)))), .i .i64 (Cm.ot (Mg.c (Opx.m (O i)))), isv (Cm.mn (Mg.c
  (Opx.m (O i)))) (Cm.mf (Mg.c (Opx.m (O i)))), .i .i64 (Cm.d (Mg.c (Opx.m (O i)))), .i .i64 (Mb.x (Mg.v (Opx.m (O i))) 6), .i .i64 (Mb.x (Mg.v (Opx.m (O i))) 7), .i .i64 (Mb.x
  (Mg.v (Opx.m (O i))) 8), isv (Mb.mn (Mg.v (Opx.m (O i)))) (Mb.mf (Mg.v (Opx.m (O i)))), isv (Mb.sn (Mg.v (Opx.m (O i)))) (Mb.sf (Mg.v (Opx.m (O i)))), svN (Mb.hn (Mg.v (Opx.m
  (O i)))) (Mb.hA (Mg.v (Opx.m (O i)))) (Mb.hM (Mg.v (Opx.m (O i)))) (Mb.hW (Mg.v (Opx.m (O i)))), svN (Mb.dn (Mg.v (Opx.m (O i)))) (Mb.dA (Mg.v (Opx.m (O i)))) (Mb.dM (Mg.v
  (Opx.m (O i)))) (Mb.dW (Mg.v (Opx.m (O i))))]] [] (.tup [.agg [.i .i64 (Cl.s y2), .i .i64 (Cl.b y2), .i .i64 (Cl.p y2), .i .i64 (Cl.q y2), .i .i64 (Cl.n y2), .b (Cl.o y2), .i
  .i64 (Cm.k (Cl.c y2)), .i .i64 (Cm.sv (Cl.c y2)), .i .i64 (Cm.bt (Cl.c y2)), .i .i64 (Cm.sq (Cl.c y2)), .i .i64 (Cm.gn (Cl.c y2)), .i .i64 (Cm.lk (Cl.c y2)), .i .i64 (Cm.md
  (Cl.c y2)), .i .i64 (Cm.ot (Cl.c y2)), isv (Cm.mn (Cl.c y2)) (Cm.mf (Cl.c y2)), .i .i64 (Cm.d (Cl.c y2)), .i .i64 (Cl.f y2), .i .i64 (Cl.l y2)], .agg [.i .i64 (Mb.x (Mg.v
  (Opx.m (O i))) 6), .i .i64 (Mb.x (Mg.v (Opx.m (O i))) 7), .i .i64 (Mb.x (Mg.v (Opx.m (O i))) 8), isv (Mb.mn (Mg.v (Opx.m (O i)))) (Mb.mf (Mg.v (Opx.m (O i)))), isv (Mb.sn
  (Mg.v (Opx.m (O i)))) (Mb.sf (Mg.v (Opx.m (O i)))), svN (Mb.hn (Mg.v (Opx.m (O i)))) (Mb.hA (Mg.v (Opx.m (O i)))) (Mb.hM (Mg.v (Opx.m (O i)))) (Mb.hW (Mg.v (Opx.m (O i)))),
  svN (Mb.dn (Mg.v (Opx.m (O i)))) (Mb.dA (Mg.v (Opx.m (O i)))) (Mb.dM (Mg.v (Opx.m (O i)))) (Mb.dW (Mg.v (Opx.m (O i))))], .i .i64 fi, .b true]) [] ∧ True ∧ decide (fi = fi) =
  true ∧ decide (fi = fi) = true ∧ decide (fi = fi) = true ∧ Con Try.prog 19 [.agg [.i .i64 (Mb.x (Mg.v (Opx.m (O i))) 6), .i .i64 (Mb.x (Mg.v (Opx.m (O i))) 7), .i .i64 (Mb.x
  (Mg.v (Opx.m (O i))) 8), isv (Mb.mn (Mg.v (Opx.m (O i)))) (Mb.mf (Mg.v (Opx.m (O i)))), isv (Mb.sn (Mg.v (Opx.m (O i)))) (Mb.sf (Mg.v (Opx.m (O i)))), svN (Mb.hn (Mg.v (Opx.m
  (O i)))) (Mb.hA (Mg.v (Opx.m (O i)))) (Mb.hM (Mg.v (Opx.m (O i)))) (Mb.hW (Mg.v (Opx.m (O i)))), svN (Mb.dn (Mg.v (Opx.m (O i)))) (Mb.dA (Mg.v (Opx.m (O i)))) (Mb.dM (Mg.v
  (Opx.m (O i)))) (Mb.dW (Mg.v (Opx.m (O i))))], .agg [.i .i64 (Mb.x (Mg.v (Opx.m (O i))) 6), .i .i64 (Mb.x (Mg.v (Opx.m (O i))) 7), .i .i64 (Mb.x (Mg.v (Opx.m (O i))) 8), isv
  (Mb.mn (Mg.v (Opx.m (O i)))) (Mb.mf (Mg.v (Opx.m (O i)))), isv (Mb.sn (Mg.v (Opx.m (O i)))) (Mb.sf (Mg.v (Opx.m (O i)))), svN (Mb.hn (Mg.v (Opx.m (O i)))) (Mb.hA (Mg.v (Opx.m
  (O i)))) (Mb.hM (Mg.v (Opx.m (O i)))) (Mb.hW (Mg.v (Opx.m (O i)))), svN (Mb.dn (Mg.v (Opx.m (O i)))) (Mb.dA (Mg.v (Opx.m (O i)))) (Mb.dM (Mg.v (Opx.m (O i)))) (Mb.dW (Mg.v
  (Opx.m (O i))))]] [] (.b true) [] ∧ decide (fi = fi) = true ∧ Con Try.prog 12 [.p 0 0] [some (clO x2)] (.tup [.agg [.i .i64 (Cm.k c2), .i .i64 (Cm.sv c2), .i .i64 (Cm.bt c2),
  .i .i64 (Cm.sq c2), .i .i64 (Cm.gn c2), .i .i64 (Cm.lk c2), .i .i64 (Cm.md c2), .i .i64 (Cm.ot c2), isv (Cm.mn c2) (Cm.mf c2), .i .i64 (Cm.d c2)], .b (Cl.o y2)]) [.keep] ∧
  True ∧ Con Try.prog 21 [.l0, .l0] [] (.b true) [] ∧ True ∧ True ∧ True ∧ (!!Cl.o y2 == Cl.o y2) = true ∧ (!!Cl.o y2 == Cl.o y2) = true ∧ True ∧ (!!Cl.o y2 == Cl.o y2) = true
  ∧ (!!Cl.o y2 == Cl.o y2) = true ∧ Con Try.prog 22 [.agg [.i .i64 (Cm.k c2), .i .i64 (Cm.sv c2), .i .i64 (Cm.bt c2), .i .i64 (Cm.sq c2), .i .i64 (Cm.gn c2), .i .i64 (Cm.lk
  c2), .i .i64 (Cm.md c2), .i .i64 (Cm.ot c2), isv (Cm.mn c2) (Cm.mf c2), .i .i64 (Cm.d c2)], .agg [.i .i64 (Cm.k (Cl.c y2)), .i .i64 (Cm.sv (Cl.c y2)), .i .i64 (Cm.bt (Cl.c
  y2)), .i .i64 (Cm.sq (Cl.c y2)), .i .i64 (Cm.gn (Cl.c y2)), .i .i64 (Cm.lk (Cl.c y2)), .i .i64 (Cm.md (Cl.c y2)), .i .i64 (Cm.ot (Cl.c y2)), isv (Cm.mn (Cl.c y2)) (Cm.mf
  (Cl.c y2)), .i .i64 (Cm.d (Cl.c y2))]] [] (.b true) [] ∧ (!!Cl.o y2 == Cl.o y2) = true ∧ True ∧ (!Cl.o y2 == Cl.o y2) = false ∧ Con Try.prog 14 [.p 0 0] [some (clO x2)] (.i
  .i64 (Cl.q y2)) [.keep] ∧ True ∧ tt0 (Cl.q y2) ∧ rg (Int.ofNat i + 1) ∧ Lf) := by unfold LD LQ; kernel_rfl
theorem pe_lq (x : Cl) (y : Cl) (n : Nat) (O : Nat → Opx) (e : Int) (c2 : Cm) (i : Nat) (h0 : decide (Int.ofNat i < Int.ofNat n) = true) (k1 : decide ((O i).k = 1) = false) (k2
  : decide ((O i).k = 2) = false) : LD Try.prog (loopAt Try.prog 4 0) 173 2 [(6, .b false), (7, .p 0 0), (9, .p 1 0), (53, .sv 27 n (oxF O)), (54, .i .i64 (Int.ofNat n)), (55,
  .i .i64 (Int.ofNat i))] [some (clO x), some (clM y)] (Orc.t (Orc.f (Orc.f (Orc.cal [] (.agg [.i .i64 (Mg.k (Opx.m (O i))), .i .i64 (Mg.fr (Opx.m (O i))), .i .i64 (Mg.to
  (Opx.m (O i))), .i .i64 (Mg.bl (Opx.m (O i))), .i .i64 (Mg.sl (Opx.m (O i))), .i .i64 (Mg.ab (Opx.m (O i))), .s (Mg.av (Opx.m (O i))), .s (Mg.st (Opx.m (O i))), .i .i64 (Cm.k
  (Mg.c (Opx.m (O i)))), .i .i64 (Cm.sv (Mg.c (Opx.m (O i)))), .i .i64 (Cm.bt (Mg.c (Opx.m (O i)))), .i .i64 (Cm.sq (Mg.c (Opx.m (O i)))), .i .i64 (Cm.gn (Mg.c (Opx.m (O i)))),
  .i .i64 (Cm.lk (Mg.c (Opx.m (O i)))), .i .i64 (Cm.md (Mg.c (Opx.m (O i)))), .i .i64 (Cm.ot (Mg.c (Opx.m (O i)))), isv (Cm.mn (Mg.c (Opx.m (O i)))) (Cm.mf (Mg.c (Opx.m (O
  i)))), .i .i64 (Cm.d (Mg.c (Opx.m (O i)))), .i .i64 (Mb.x (Mg.v (Opx.m (O i))) 6), .i .i64 (Mb.x (Mg.v (Opx.m (O i))) 7), .i .i64 (Mb.x (Mg.v (Opx.m (O i))) 8), isv (Mb.mn
  (Mg.v (Opx.m (O i)))) (Mb.mf (Mg.v (Opx.m (O i)))), isv (Mb.sn (Mg.v (Opx.m (O i)))) (Mb.sf (Mg.v (Opx.m (O i)))), svN (Mb.hn (Mg.v (Opx.m (O i)))) (Mb.hA (Mg.v (Opx.m (O
  i)))) (Mb.hM (Mg.v (Opx.m (O i)))) (Mb.hW (Mg.v (Opx.m (O i)))), svN (Mb.dn (Mg.v (Opx.m (O i)))) (Mb.dA (Mg.v (Opx.m (O i)))) (Mb.dM (Mg.v (Opx.m (O i)))) (Mb.dW (Mg.v
  (Opx.m (O i))))]) [] (Orc.cal [0] (.tup [.l0, .i .i64 e]) [.keep] (Orc.cal [] (.tup [.agg [.i .i64 (Cl.s y), .i .i64 (Cl.b y), .i .i64 (Cl.p y), .i .i64 (Cl.q y), .i .i64
  (Cl.n y), .b (Cl.o y), .i .i64 (Cm.k (Cl.c y)), .i .i64 (Cm.sv (Cl.c y)), .i .i64 (Cm.bt (Cl.c y)), .i .i64 (Cm.sq (Cl.c y)), .i .i64 (Cm.gn (Cl.c y)), .i .i64 (Cm.lk (Cl.c
  y)), .i .i64 (Cm.md (Cl.c y)), .i .i64 (Cm.ot (Cl.c y)), isv (Cm.mn (Cl.c y)) (Cm.mf (Cl.c y)), .i .i64 (Cm.d (Cl.c y)), .i .i64 (Cl.f y), .i .i64 (Cl.l y)], .l0, .i .i64 e])
  [] (Orc.cal [0] (.tup [.agg [.i .i64 (Cm.k c2), .i .i64 (Cm.sv c2), .i .i64 (Cm.bt c2), .i .i64 (Cm.sq c2), .i .i64 (Cm.gn c2), .i .i64 (Cm.lk c2), .i .i64 (Cm.md c2), .i
  .i64 (Cm.ot c2), isv (Cm.mn c2) (Cm.mf c2), .i .i64 (Cm.d c2)], .b (Cl.o y)]) [.keep] (oc 4 (Orc.t (Orc.t (Orc.t (Orc.cal [] (.b true) [] (Orc.t (Orc.f (oc 5 (Orc.t (Orc.t
  (Orc.t (Orc.t (Orc.cal [] (.b true) [] (Orc.t (Orc.f (oc 2 (Orc.cal [0] (.i .i64 (Cl.q y)) [.keep] (oc 4 (Orc.f Orc.z)))))))))))))))))))))))))) .nrm [0, 1] [(6, .b false),
  (7, .p 0 0), (9, .p 1 0), (53, .sv 27 n (oxF O)), (54, .i .i64 (Int.ofNat n)), (55, .i .i64 (Int.ofNat i + 1))] [some (clO x), some (clM y)] 4 (fun Lf => decide (Int.ofNat i
  < Int.ofNat n) = true ∧ (0 ≤ Int.ofNat i ∧ Int.ofNat i < ↑n) ∧ True ∧ True ∧ decide (Opx.k (O i) = 1) = false ∧ decide (Opx.k (O i) = 2) = false ∧ True ∧ True ∧ Con Try.prog
  17 [.agg [.i .i64 (Mg.k (Opx.m (O i))), .i .i64 (Mg.fr (Opx.m (O i))), .i .i64 (Mg.to (Opx.m (O i))), .i .i64 (Mg.bl (Opx.m (O i))), .i .i64 (Mg.sl (Opx.m (O i))), .i .i64
  (Mg.ab (Opx.m (O i))), .s (Mg.av (Opx.m (O i))), .s (Mg.st (Opx.m (O i))), .i .i64 (Cm.k (Mg.c (Opx.m (O i)))), .i .i64 (Cm.sv (Mg.c (Opx.m (O i)))), .i .i64 (Cm.bt (Mg.c
  (Opx.m (O i)))), .i .i64 (Cm.sq (Mg.c (Opx.m (O i)))), .i .i64 (Cm.gn (Mg.c (Opx.m (O i)))), .i .i64 (Cm.lk (Mg.c (Opx.m (O i)))), .i .i64 (Cm.md (Mg.c (Opx.m (O i)))), .i
  .i64 (Cm.ot (Mg.c (Opx.m (O i)))), isv (Cm.mn (Mg.c (Opx.m (O i)))) (Cm.mf (Mg.c (Opx.m (O i)))), .i .i64 (Cm.d (Mg.c (Opx.m (O i)))), .i .i64 (Mb.x (Mg.v (Opx.m (O i))) 6),
  .i .i64 (Mb.x (Mg.v (Opx.m (O i))) 7), .i .i64 (Mb.x (Mg.v (Opx.m (O i))) 8), isv (Mb.mn (Mg.v (Opx.m (O i)))) (Mb.mf (Mg.v (Opx.m (O i)))), isv (Mb.sn (Mg.v (Opx.m (O i))))
  (Mb.sf (Mg.v (Opx.m (O i)))), svN (Mb.hn (Mg.v (Opx.m (O i)))) (Mb.hA (Mg.v (Opx.m (O i)))) (Mb.hM (Mg.v (Opx.m (O i)))) (Mb.hW (Mg.v (Opx.m (O i)))), svN (Mb.dn (Mg.v (Opx.m
  (O i)))) (Mb.dA (Mg.v (Opx.m (O i)))) (Mb.dM (Mg.v (Opx.m (O i)))) (Mb.dW (Mg.v (Opx.m (O i))))]] [] (.agg [.i .i64 (Mg.k (Opx.m (O i))), .i .i64 (Mg.fr (Opx.m (O i))), .i
  .i64 (Mg.to (Opx.m (O i))), .i .i64 (Mg.bl (Opx.m (O i))), .i .i64 (Mg.sl (Opx.m (O i))), .i .i64 (Mg.ab (Opx.m (O i))), .s (Mg.av (Opx.m (O i))), .s (Mg.st (Opx.m (O i))),
  .i .i64 (Cm.k (Mg.c (Opx.m (O i)))), .i .i64 (Cm.sv (Mg.c (Opx.m (O i)))), .i .i64 (Cm.bt (Mg.c (Opx.m (O i)))), .i .i64 (Cm.sq (Mg.c (Opx.m (O i)))), .i .i64 (Cm.gn (Mg.c
  (Opx.m (O i)))), .i .i64 (Cm.lk (Mg.c (Opx.m (O i)))), .i .i64 (Cm.md (Mg.c (Opx.m (O i)))), .i .i64 (Cm.ot (Mg.c (Opx.m (O i)))), isv (Cm.mn (Mg.c (Opx.m (O i)))) (Cm.mf
  (Mg.c (Opx.m (O i)))), .i .i64 (Cm.d (Mg.c (Opx.m (O i)))), .i .i64 (Mb.x (Mg.v (Opx.m (O i))) 6), .i .i64 (Mb.x (Mg.v (Opx.m (O i))) 7), .i .i64 (Mb.x (Mg.v (Opx.m (O i)))
  8), isv (Mb.mn (Mg.v (Opx.m (O i)))) (Mb.mf (Mg.v (Opx.m (O i)))), isv (Mb.sn (Mg.v (Opx.m (O i)))) (Mb.sf (Mg.v (Opx.m (O i)))), svN (Mb.hn (Mg.v (Opx.m (O i)))) (Mb.hA
  (Mg.v (Opx.m (O i)))) (Mb.hM (Mg.v (Opx.m (O i)))) (Mb.hW (Mg.v (Opx.m (O i)))), svN (Mb.dn (Mg.v (Opx.m (O i)))) (Mb.dA (Mg.v (Opx.m (O i)))) (Mb.dM (Mg.v (Opx.m (O i))))
  (Mb.dW (Mg.v (Opx.m (O i))))]) [] ∧ Con Try.prog 9 [.p 0 0, .i .i64 (Opx.t (O i)), .agg [.i .i64 (Cm.k (Mg.c (Opx.m (O i)))), .i .i64 (Cm.sv (Mg.c (Opx.m (O i)))), .i .i64
  (Cm.bt (Mg.c (Opx.m (O i)))), .i .i64 (Cm.sq (Mg.c (Opx.m (O i)))), .i .i64 (Cm.gn (Mg.c (Opx.m (O i)))), .i .i64 (Cm.lk (Mg.c (Opx.m (O i)))), .i .i64 (Cm.md (Mg.c (Opx.m (O
  i)))), .i .i64 (Cm.ot (Mg.c (Opx.m (O i)))), isv (Cm.mn (Mg.c (Opx.m (O i)))) (Cm.mf (Mg.c (Opx.m (O i)))), .i .i64 (Cm.d (Mg.c (Opx.m (O i))))]] [some (clO x)] (.tup [.l0,
  .i .i64 e]) [.keep] ∧ True ∧ True ∧ True ∧ Con Try.prog 20 [.agg [.i .i64 (Cl.s y), .i .i64 (Cl.b y), .i .i64 (Cl.p y), .i .i64 (Cl.q y), .i .i64 (Cl.n y), .b (Cl.o y), .i
  .i64 (Cm.k (Cl.c y)), .i .i64 (Cm.sv (Cl.c y)), .i .i64 (Cm.bt (Cl.c y)), .i .i64 (Cm.sq (Cl.c y)), .i .i64 (Cm.gn (Cl.c y)), .i .i64 (Cm.lk (Cl.c y)), .i .i64 (Cm.md (Cl.c
  y)), .i .i64 (Cm.ot (Cl.c y)), isv (Cm.mn (Cl.c y)) (Cm.mf (Cl.c y)), .i .i64 (Cm.d (Cl.c y)), .i .i64 (Cl.f y), .i .i64 (Cl.l y)], .i .i64 (Opx.t (O i)), .agg [.i .i64 (Cm.k
  (Mg.c (Opx.m (O i)))), .i .i64 (Cm.sv (Mg.c (Opx.m (O i)))), .i .i64 (Cm.bt (Mg.c (Opx.m (O i)))), .i .i64 (Cm.sq (Mg.c (Opx.m (O i)))), .i .i64 (Cm.gn (Mg.c (Opx.m (O i)))),
  .i .i64 (Cm.lk (Mg.c (Opx.m (O i)))), .i .i64 (Cm.md (Mg.c (Opx.m (O i)))), .i .i64 (Cm.ot (Mg.c (Opx.m (O i)))), isv (Cm.mn (Mg.c (Opx.m (O i)))) (Cm.mf (Mg.c (Opx.m (O
  i)))), .i .i64 (Cm.d (Mg.c (Opx.m (O i))))]] [] (.tup [.agg [.i .i64 (Cl.s y), .i .i64 (Cl.b y), .i .i64 (Cl.p y), .i .i64 (Cl.q y), .i .i64 (Cl.n y), .b (Cl.o y), .i .i64
  (Cm.k (Cl.c y)), .i .i64 (Cm.sv (Cl.c y)), .i .i64 (Cm.bt (Cl.c y)), .i .i64 (Cm.sq (Cl.c y)), .i .i64 (Cm.gn (Cl.c y)), .i .i64 (Cm.lk (Cl.c y)), .i .i64 (Cm.md (Cl.c y)),
  .i .i64 (Cm.ot (Cl.c y)), isv (Cm.mn (Cl.c y)) (Cm.mf (Cl.c y)), .i .i64 (Cm.d (Cl.c y)), .i .i64 (Cl.f y), .i .i64 (Cl.l y)], .l0, .i .i64 e]) [] ∧ Con Try.prog 12 [.p 0 0]
  [some (clO x)] (.tup [.agg [.i .i64 (Cm.k c2), .i .i64 (Cm.sv c2), .i .i64 (Cm.bt c2), .i .i64 (Cm.sq c2), .i .i64 (Cm.gn c2), .i .i64 (Cm.lk c2), .i .i64 (Cm.md c2), .i .i64
  (Cm.ot c2), isv (Cm.mn c2) (Cm.mf c2), .i .i64 (Cm.d c2)], .b (Cl.o y)]) [.keep] ∧ True ∧ tt1 (e) ∧ tt1 (e) ∧ tt1 (e) ∧ Con Try.prog 21 [.l0, .l0] [] (.b true) [] ∧ tt1 (e) ∧
  True ∧ tt0 (e) ∧ True ∧ True ∧ (!!Cl.o y == Cl.o y) = true ∧ (!!Cl.o y == Cl.o y) = true ∧ True ∧ (!!Cl.o y == Cl.o y) = true ∧ (!!Cl.o y == Cl.o y) = true ∧ Con Try.prog 22
  [.agg [.i .i64 (Cm.k c2), .i .i64 (Cm.sv c2), .i .i64 (Cm.bt c2), .i .i64 (Cm.sq c2), .i .i64 (Cm.gn c2), .i .i64 (Cm.lk c2), .i .i64 (Cm.md c2), .i .i64 (Cm.ot c2), isv
  (Cm.mn c2) (Cm.mf c2), .i .i64 (Cm.d c2)], .agg [.i .i64 (Cm.k (Cl.c y)), .i .i64 (Cm.sv (Cl.c y)), .i .i64 (Cm.bt (Cl.c y)), .i .i64 (Cm.sq (Cl.c y)), .i .i64 (Cm.gn (Cl.c
  y)), .i .i64 (Cm.lk (Cl.c y)), .i .i64 (Cm.md (Cl.c y)), .i .i64 (Cm.ot (Cl.c y)), isv (Cm.mn (Cl.c y)) (Cm.mf (Cl.c y)), .i .i64 (Cm.d (Cl.c y))]] [] (.b true) [] ∧ (!!Cl.o
  y == Cl.o y) = true ∧ True ∧ (!Cl.o y == Cl.o y) = false ∧ Con Try.prog 14 [.p 0 0] [some (clO x)] (.i .i64 (Cl.q y)) [.keep] ∧ True ∧ tt0 (Cl.q y) ∧ rg (Int.ofNat i + 1) ∧
  Lf) := by unfold LD LQ; kernel_rfl
theorem pf_lq (x : Cl) (x2 : Cl) (y : Cl) (y2 : Cl) (m2 : Mg) (n : Nat) (O : Nat → Opx) (c2 : Cm) (i : Nat) (h0 : decide (Int.ofNat i < Int.ofNat n) = true) (k1 : decide ((O
  i).k = 1) = false) (k2 : decide ((O i).k = 2) = false) : LD Try.prog (loopAt Try.prog 4 0) 173 2 [(6, .b false), (7, .p 0 0), (9, .p 1 0), (53, .sv 27 n (oxF O)), (54, .i
  .i64 (Int.ofNat n)), (55, .i .i64 (Int.ofNat i))] [some (clO x), some (clM y)] (Orc.t (Orc.f (Orc.f (Orc.cal [] (.agg [.i .i64 (Mg.k (Opx.m (O i))), .i .i64 (Mg.fr (Opx.m (O
  i))), .i .i64 (Mg.to (Opx.m (O i))), .i .i64 (Mg.bl (Opx.m (O i))), .i .i64 (Mg.sl (Opx.m (O i))), .i .i64 (Mg.ab (Opx.m (O i))), .s (Mg.av (Opx.m (O i))), .s (Mg.st (Opx.m
  (O i))), .i .i64 (Cm.k (Mg.c (Opx.m (O i)))), .i .i64 (Cm.sv (Mg.c (Opx.m (O i)))), .i .i64 (Cm.bt (Mg.c (Opx.m (O i)))), .i .i64 (Cm.sq (Mg.c (Opx.m (O i)))), .i .i64 (Cm.gn
  (Mg.c (Opx.m (O i)))), .i .i64 (Cm.lk (Mg.c (Opx.m (O i)))), .i .i64 (Cm.md (Mg.c (Opx.m (O i)))), .i .i64 (Cm.ot (Mg.c (Opx.m (O i)))), isv (Cm.mn (Mg.c (Opx.m (O i))))
  (Cm.mf (Mg.c (Opx.m (O i)))), .i .i64 (Cm.d (Mg.c (Opx.m (O i)))), .i .i64 (Mb.x (Mg.v (Opx.m (O i))) 6), .i .i64 (Mb.x (Mg.v (Opx.m (O i))) 7), .i .i64 (Mb.x (Mg.v (Opx.m (O
  i))) 8), isv (Mb.mn (Mg.v (Opx.m (O i)))) (Mb.mf (Mg.v (Opx.m (O i)))), isv (Mb.sn (Mg.v (Opx.m (O i)))) (Mb.sf (Mg.v (Opx.m (O i)))), svN (Mb.hn (Mg.v (Opx.m (O i)))) (Mb.hA
  (Mg.v (Opx.m (O i)))) (Mb.hM (Mg.v (Opx.m (O i)))) (Mb.hW (Mg.v (Opx.m (O i)))), svN (Mb.dn (Mg.v (Opx.m (O i)))) (Mb.dA (Mg.v (Opx.m (O i)))) (Mb.dM (Mg.v (Opx.m (O i))))
  (Mb.dW (Mg.v (Opx.m (O i))))]) [] (Orc.cal [0] (.tup [mg1 m2, .i .i64 0]) [.set (clO x2)] (Orc.cal [] (.tup [.agg [.i .i64 (Cl.s y2), .i .i64 (Cl.b y2), .i .i64 (Cl.p y2), .i
  .i64 (Cl.q y2), .i .i64 (Cl.n y2), .b (Cl.o y2), .i .i64 (Cm.k (Cl.c y2)), .i .i64 (Cm.sv (Cl.c y2)), .i .i64 (Cm.bt (Cl.c y2)), .i .i64 (Cm.sq (Cl.c y2)), .i .i64 (Cm.gn
  (Cl.c y2)), .i .i64 (Cm.lk (Cl.c y2)), .i .i64 (Cm.md (Cl.c y2)), .i .i64 (Cm.ot (Cl.c y2)), isv (Cm.mn (Cl.c y2)) (Cm.mf (Cl.c y2)), .i .i64 (Cm.d (Cl.c y2)), .i .i64 (Cl.f
  y2), .i .i64 (Cl.l y2)], mg1 m2, .i .i64 0]) [] (Orc.cal [0] (.tup [.agg [.i .i64 (Cm.k c2), .i .i64 (Cm.sv c2), .i .i64 (Cm.bt c2), .i .i64 (Cm.sq c2), .i .i64 (Cm.gn c2),
  .i .i64 (Cm.lk c2), .i .i64 (Cm.md c2), .i .i64 (Cm.ot c2), isv (Cm.mn c2) (Cm.mf c2), .i .i64 (Cm.d c2)], .b (Cl.o y2)]) [.keep] (oc 7 (Orc.cal [] (.b true) [] (oc 7 (Orc.t
  (Orc.t (Orc.t (Orc.t (Orc.cal [] (.b true) [] (Orc.t (Orc.f (oc 2 (Orc.cal [0] (.i .i64 (Cl.q y2)) [.keep] (oc 4 (Orc.f Orc.z))))))))))))))))))))) .nrm [0, 1] [(6, .b false),
  (7, .p 0 0), (9, .p 1 0), (53, .sv 27 n (oxF O)), (54, .i .i64 (Int.ofNat n)), (55, .i .i64 (Int.ofNat i + 1))] [some (clO x2), some (clM y2)] 4 (fun Lf => decide (Int.ofNat
  i < Int.ofNat n) = true ∧ (0 ≤ Int.ofNat i ∧ Int.ofNat i < ↑n) ∧ True ∧ True ∧ decide (Opx.k (O i) = 1) = false ∧ decide (Opx.k (O i) = 2) = false ∧ True ∧ True ∧ Con
  Try.prog 17 [.agg [.i .i64 (Mg.k (Opx.m (O i))), .i .i64 (Mg.fr (Opx.m (O i))), .i .i64 (Mg.to (Opx.m (O i))), .i .i64 (Mg.bl (Opx.m (O i))), .i .i64 (Mg.sl (Opx.m (O i))),
  .i .i64 (Mg.ab (Opx.m (O i))), .s (Mg.av (Opx.m (O i))), .s (Mg.st (Opx.m (O i))), .i .i64 (Cm.k (Mg.c (Opx.m (O i)))), .i .i64 (Cm.sv (Mg.c (Opx.m (O i)))), .i .i64 (Cm.bt
  (Mg.c (Opx.m (O i)))), .i .i64 (Cm.sq (Mg.c (Opx.m (O i)))), .i .i64 (Cm.gn (Mg.c (Opx.m (O i)))), .i .i64 (Cm.lk (Mg.c (Opx.m (O i)))), .i .i64 (Cm.md (Mg.c (Opx.m (O i)))),
  .i .i64 (Cm.ot (Mg.c (Opx.m (O i)))), isv (Cm.mn (Mg.c (Opx.m (O i)))) (Cm.mf (Mg.c (Opx.m (O i)))), .i .i64 (Cm.d (Mg.c (Opx.m (O i)))), .i .i64 (Mb.x (Mg.v (Opx.m (O i)))
  6), .i .i64 (Mb.x (Mg.v (Opx.m (O i))) 7), .i .i64 (Mb.x (Mg.v (Opx.m (O i))) 8), isv (Mb.mn (Mg.v (Opx.m (O i)))) (Mb.mf (Mg.v (Opx.m (O i)))), isv (Mb.sn (Mg.v (Opx.m (O
  i)))) (Mb.sf (Mg.v (Opx.m (O i)))), svN (Mb.hn (Mg.v (Opx.m (O i)))) (Mb.hA (Mg.v (Opx.m (O i)))) (Mb.hM (Mg.v (Opx.m (O i)))) (Mb.hW (Mg.v (Opx.m (O i)))), svN (Mb.dn (Mg.v
  (Opx.m (O i)))) (Mb.dA (Mg.v (Opx.m (O i)))) (Mb.dM (Mg.v (Opx.m (O i)))) (Mb.dW (Mg.v (Opx.m (O i))))]] [] (.agg [.i .i64 (Mg.k (Opx.m (O i))), .i .i64 (Mg.fr (Opx.m (O
  i))), .i .i64 (Mg.to (Opx.m (O i))), .i .i64 (Mg.bl (Opx.m (O i))), .i .i64 (Mg.sl (Opx.m (O i))), .i .i64 (Mg.ab (Opx.m (O i))), .s (Mg.av (Opx.m (O i))), .s (Mg.st (Opx.m
  (O i))), .i .i64 (Cm.k (Mg.c (Opx.m (O i)))), .i .i64 (Cm.sv (Mg.c (Opx.m (O i)))), .i .i64 (Cm.bt (Mg.c (Opx.m (O i)))), .i .i64 (Cm.sq (Mg.c (Opx.m (O i)))), .i .i64 (Cm.gn
  (Mg.c (Opx.m (O i)))), .i .i64 (Cm.lk (Mg.c (Opx.m (O i)))), .i .i64 (Cm.md (Mg.c (Opx.m (O i)))), .i .i64 (Cm.ot (Mg.c (Opx.m (O i)))), isv (Cm.mn (Mg.c (Opx.m (O i))))
  (Cm.mf (Mg.c (Opx.m (O i)))), .i .i64 (Cm.d (Mg.c (Opx.m (O i)))), .i .i64 (Mb.x (Mg.v (Opx.m (O i))) 6), .i .i64 (Mb.x (Mg.v (Opx.m (O i))) 7), .i .i64 (Mb.x (Mg.v (Opx.m (O
  i))) 8), isv (Mb.mn (Mg.v (Opx.m (O i)))) (Mb.mf (Mg.v (Opx.m (O i)))), isv (Mb.sn (Mg.v (Opx.m (O i)))) (Mb.sf (Mg.v (Opx.m (O i)))), svN (Mb.hn (Mg.v (Opx.m (O i)))) (Mb.hA
  (Mg.v (Opx.m (O i)))) (Mb.hM (Mg.v (Opx.m (O i)))) (Mb.hW (Mg.v (Opx.m (O i)))), svN (Mb.dn (Mg.v (Opx.m (O i)))) (Mb.dA (Mg.v (Opx.m (O i)))) (Mb.dM (Mg.v (Opx.m (O i))))
  (Mb.dW (Mg.v (Opx.m (O i))))]) [] ∧ Con Try.prog 9 [.p 0 0, .i .i64 (Opx.t (O i)), .agg [.i .i64 (Cm.k (Mg.c (Opx.m (O i)))), .i .i64 (Cm.sv (Mg.c (Opx.m (O i)))), .i .i64
  (Cm.bt (Mg.c (Opx.m (O i)))), .i .i64 (Cm.sq (Mg.c (Opx.m (O i)))), .i .i64 (Cm.gn (Mg.c (Opx.m (O i)))), .i .i64 (Cm.lk (Mg.c (Opx.m (O i)))), .i .i64 (Cm.md (Mg.c (Opx.m (O
  i)))), .i .i64 (Cm.ot (Mg.c (Opx.m (O i)))), isv (Cm.mn (Mg.c (Opx.m (O i)))) (Cm.mf (Mg.c (Opx.m (O i)))), .i .i64 (Cm.d (Mg.c (Opx.m (O i))))]] [some (clO x)] (.tup [mg1
  m2, .i .i64 0]) [.set (clO x2)] ∧ True ∧ True ∧ True ∧ Con Try.prog 20 [.agg [.i .i64 (Cl.s y), .i .i64 (Cl.b y), .i .i64 (Cl.p y), .i .i64 (Cl.q y), .i .i64 (Cl.n y), .b
  (Cl.o y), .i .i64 (Cm.k (Cl.c y)), .i .i64 (Cm.sv (Cl.c y)), .i .i64 (Cm.bt (Cl.c y)), .i .i64 (Cm.sq (Cl.c y)), .i .i64 (Cm.gn (Cl.c y)), .i .i64 (Cm.lk (Cl.c y)), .i .i64
  (Cm.md (Cl.c y)), .i .i64 (Cm.ot (Cl.c y)), isv (Cm.mn (Cl.c y)) (Cm.mf (Cl.c y)), .i .i64 (Cm.d (Cl.c y)), .i .i64 (Cl.f y), .i .i64 (Cl.l y)], .i .i64 (Opx.t (O i)), .agg
  [.i .i64 (Cm.k (Mg.c (Opx.m (O i)))), .i .i64 (Cm.sv (Mg.c (Opx.m (O i)))), .i .i64 (Cm.bt (Mg.c (Opx.m (O i)))), .i .i64 (Cm.sq (Mg.c (Opx.m (O i)))), .i .i64 (Cm.gn (Mg.c
  (Opx.m (O i)))), .i .i64 (Cm.lk (Mg.c (Opx.m (O i)))), .i .i64 (Cm.md (Mg.c (Opx.m (O i)))), .i .i64 (Cm.ot (Mg.c (Opx.m (O i)))), isv (Cm.mn (Mg.c (Opx.m (O i)))) (Cm.mf
  (Mg.c (Opx.m (O i)))), .i .i64 (Cm.d (Mg.c (Opx.m (O i))))]] [] (.tup [.agg [.i .i64 (Cl.s y2), .i .i64 (Cl.b y2), .i .i64 (Cl.p y2), .i .i64 (Cl.q y2), .i .i64 (Cl.n y2), .b
  (Cl.o y2), .i .i64 (Cm.k (Cl.c y2)), .i .i64 (Cm.sv (Cl.c y2)), .i .i64 (Cm.bt (Cl.c y2)), .i .i64 (Cm.sq (Cl.c y2)), .i .i64 (Cm.gn (Cl.c y2)), .i .i64 (Cm.lk (Cl.c y2)), .i
  .i64 (Cm.md (Cl.c y2)), .i .i64 (Cm.ot (Cl.c y2)), isv (Cm.mn (Cl.c y2)) (Cm.mf (Cl.c y2)), .i .i64 (Cm.d (Cl.c y2)), .i .i64 (Cl.f y2), .i .i64 (Cl.l y2)], mg1 m2, .i .i64
  0]) [] ∧ Con Try.prog 12 [.p 0 0] [some (clO x2)] (.tup [.agg [.i .i64 (Cm.k c2), .i .i64 (Cm.sv c2), .i .i64 (Cm.bt c2), .i .i64 (Cm.sq c2), .i .i64 (Cm.gn c2), .i .i64
  (Cm.lk c2), .i .i64 (Cm.md c2), .i .i64 (Cm.ot c2), isv (Cm.mn c2) (Cm.mf c2), .i .i64 (Cm.d c2)], .b (Cl.o y2)]) [.keep] ∧ True ∧ Con Try.prog 21 [mg1 m2, mg1 m2] [] (.b
  true) [] ∧ True ∧ True ∧ True ∧ (!!Cl.o y2 == Cl.o y2) = true ∧ (!!Cl.o y2 == Cl.o y2) = true ∧ True ∧ (!!Cl.o y2 == Cl.o y2) = true ∧ (!!Cl.o y2 == Cl.o y2) = true ∧ Con
  Try.prog 22 [.agg [.i .i64 (Cm.k c2), .i .i64 (Cm.sv c2), .i .i64 (Cm.bt c2), .i .i64 (Cm.sq c2), .i .i64 (Cm.gn c2), .i .i64 (Cm.lk c2), .i .i64 (Cm.md c2), .i .i64 (Cm.ot
  c2), isv (Cm.mn c2) (Cm.mf c2), .i .i64 (Cm.d c2)], .agg [.i .i64 (Cm.k (Cl.c y2)), .i .i64 (Cm.sv (Cl.c y2)), .i .i64 (Cm.bt (Cl.c y2)), .i .i64 (Cm.sq (Cl.c y2)), .i .i64
  (Cm.gn (Cl.c y2)), .i .i64 (Cm.lk (Cl.c y2)), .i .i64 (Cm.md (Cl.c y2)), .i .i64 (Cm.ot (Cl.c y2)), isv (Cm.mn (Cl.c y2)) (Cm.mf (Cl.c y2)), .i .i64 (Cm.d (Cl.c y2))]] [] (.b
  true) [] ∧ (!!Cl.o y2 == Cl.o y2) = true ∧ True ∧ (!Cl.o y2 == Cl.o y2) = false ∧ Con Try.prog 14 [.p 0 0] [some (clO x2)] (.i .i64 (Cl.q y2)) [.keep] ∧ True ∧ tt0 (Cl.q y2)
  ∧ rg (Int.ofNat i + 1) ∧ Lf) := by unfold LD LQ; kernel_rfl
theorem pE_lq (x : Cl) (y : Cl) (n : Nat) (O : Nat → Opx) (i : Nat) (h0 : decide (Int.ofNat i < Int.ofNat n) = false) : LD Try.prog (loopAt Try.prog 4 0) 173 2 [(6, .b false),
  (7, .p 0 0), (9, .p 1 0), (53, .sv 27 n (oxF O)), (54, .i .i64 (Int.ofNat n)), (55, .i .i64 (Int.ofNat i))] [some (clO x), some (clM y)] (Orc.f Orc.z) (.exit 0) [0, 1] []
  [some (clO x), some (clM y)] 2 (fun Lf => decide (Int.ofNat i < Int.ofNat n) = false ∧ Lf) := by unfold LD LQ; kernel_rfl
theorem p0_vq (s : Int) (b : Int) (n : Nat) (O : Nat → Opx) : VD Try.prog 4 [.i .i64 s, .i .i64 b, .sv 27 n (oxF O)] [] (Orc.cal [] (.b true) [] (Orc.c (Orc.cal [] (.tup [.p0,
  .i .i64 2]) [] (Orc.cal [] (.tup [.agg [.i .i64 0, .i .i64 0, .i .i64 0, .i .i64 0, .i .i64 0, .b false, .i .i64 0, .i .i64 0, .i .i64 0, .i .i64 0, .i .i64 0, .i .i64 0, .i
  .i64 0, .i .i64 0, .l0, .i .i64 0, .i .i64 0, .i .i64 0], .i .i64 2]) [] (oc 8 Orc.z))))) (.b true) [] [] 1 (fun Lf => Con Try.prog 13 [] [] (.b true) [] ∧ True ∧ Con
  Try.prog 8 [.i .i64 s, .i .i64 b, .i .i64 3] [] (.tup [.p0, .i .i64 2]) [] ∧ Con Try.prog 15 [.i .i64 s, .i .i64 b, .i .i64 3] [] (.tup [.agg [.i .i64 0, .i .i64 0, .i .i64
  0, .i .i64 0, .i .i64 0, .b false, .i .i64 0, .i .i64 0, .i .i64 0, .i .i64 0, .i .i64 0, .i .i64 0, .i .i64 0, .i .i64 0, .l0, .i .i64 0, .i .i64 0, .i .i64 0], .i .i64 2])
  [] ∧ True ∧ True ∧ True ∧ Lf) := by unfold VD VQ; kernel_rfl
theorem p1_vq (x0 : Cl) (s : Int) (b : Int) (n : Nat) (O : Nat → Opx) : VD Try.prog 4 [.i .i64 s, .i .i64 b, .sv 27 n (oxF O)] [] (Orc.cal [] (.b true) [] (Orc.c (Orc.cal []
  (.tup [.p 0 0, .i .i64 0]) [.set (clO x0)] (Orc.cal [] (.tup [.agg (clL x0), .i .i64 0]) [] (oc 8 (Orc.lop [0, 1] [6, 7, 9, 53, 54, 55] 2 (XO.exit 0) [] [none, none]
  Orc.z)))))) (.b true) [] [] 2 (fun Lf => Con Try.prog 13 [] [] (.b true) [] ∧ True ∧ Con Try.prog 8 [.i .i64 s, .i .i64 b, .i .i64 3] [] (.tup [.p 0 0, .i .i64 0]) [.set (clO
  x0)] ∧ Con Try.prog 15 [.i .i64 s, .i .i64 b, .i .i64 3] [] (.tup [.agg (clL x0), .i .i64 0]) [] ∧ True ∧ True ∧ True ∧ LDoes Try.prog (loopAt Try.prog 4 0) 173 2 (mkT [(6,
  .b false), (7, .p 0 0), (9, .p 1 0), (53, .sv 27 n (oxF O)), (54, .i .i64 (Int.ofNat n)), (55, .i .i64 0)]) [some (clO x0), some (clM x0)] (XO.exit 0) (mkT []) [none, none] ∧
  Lf) := by unfold VD VQ; kernel_rfl
theorem sm_vq (m : Mg) (h : (decide (m.ab = m.ab) && (natsEq m.av m.av && true)) = true) : VD Try.prog 25 [mgV m, mgV m] [] (Orc.cal [] (.b true) [] (oc 5 (Orc.cal [] (.b true)
  [] (oc 3 (Orc.t (Orc.t (Orc.t (Orc.t (Orc.t (Orc.t (Orc.t (Orc.t (Orc.t (Orc.t (Orc.t (Orc.t (Orc.t (Orc.t (Orc.t (Orc.t (Orc.t (Orc.t (Orc.t (Orc.t (Orc.t (Orc.t (Orc.t
  (Orc.t (Orc.t (Orc.t (Orc.t (Orc.t (Orc.t (Orc.t (Orc.t (Orc.t (Orc.t (Orc.t (Orc.t (Orc.t Orc.z)))))))))))))))))))))))))))))))))))))))) (.b (natsEq (Mg.st m) (Mg.st m))) []
  [] 2 (fun Lf => True ∧ True ∧ Con Try.prog 22 [.agg [.i .i64 (Cm.k (Mg.c m)), .i .i64 (Cm.sv (Mg.c m)), .i .i64 (Cm.bt (Mg.c m)), .i .i64 (Cm.sq (Mg.c m)), .i .i64 (Cm.gn
  (Mg.c m)), .i .i64 (Cm.lk (Mg.c m)), .i .i64 (Cm.md (Mg.c m)), .i .i64 (Cm.ot (Mg.c m)), isv (Cm.mn (Mg.c m)) (Cm.mf (Mg.c m)), .i .i64 (Cm.d (Mg.c m))], .agg [.i .i64 (Cm.k
  (Mg.c m)), .i .i64 (Cm.sv (Mg.c m)), .i .i64 (Cm.bt (Mg.c m)), .i .i64 (Cm.sq (Mg.c m)), .i .i64 (Cm.gn (Mg.c m)), .i .i64 (Cm.lk (Mg.c m)), .i .i64 (Cm.md (Mg.c m)), .i .i64
  (Cm.ot (Mg.c m)), isv (Cm.mn (Mg.c m)) (Cm.mf (Mg.c m)), .i .i64 (Cm.d (Mg.c m))]] [] (.b true) [] ∧ True ∧ True ∧ True ∧ Con Try.prog 19 [.agg [.i .i64 (Mb.x (Mg.v m) 6), .i
  .i64 (Mb.x (Mg.v m) 7), .i .i64 (Mb.x (Mg.v m) 8), isv (Mb.mn (Mg.v m)) (Mb.mf (Mg.v m)), isv (Mb.sn (Mg.v m)) (Mb.sf (Mg.v m)), svN (Mb.hn (Mg.v m)) (Mb.hA (Mg.v m)) (Mb.hM
  (Mg.v m)) (Mb.hW (Mg.v m)), svN (Mb.dn (Mg.v m)) (Mb.dA (Mg.v m)) (Mb.dM (Mg.v m)) (Mb.dW (Mg.v m))], .agg [.i .i64 (Mb.x (Mg.v m) 6), .i .i64 (Mb.x (Mg.v m) 7), .i .i64
  (Mb.x (Mg.v m) 8), isv (Mb.mn (Mg.v m)) (Mb.mf (Mg.v m)), isv (Mb.sn (Mg.v m)) (Mb.sf (Mg.v m)), svN (Mb.hn (Mg.v m)) (Mb.hA (Mg.v m)) (Mb.hM (Mg.v m)) (Mb.hW (Mg.v m)), svN
  (Mb.dn (Mg.v m)) (Mb.dA (Mg.v m)) (Mb.dM (Mg.v m)) (Mb.dW (Mg.v m))]] [] (.b true) [] ∧ True ∧ True ∧ True ∧ decide (Mg.k m = Mg.k m) = true ∧ True ∧ decide (Mg.k m = Mg.k m)
  = true ∧ decide (Mg.k m = Mg.k m) = true ∧ True ∧ decide (Mg.k m = Mg.k m) = true ∧ decide (Mg.k m = Mg.k m) = true ∧ decide (Mg.k m = Mg.k m) = true ∧ decide (Mg.fr m =
  Mg.fr m) = true ∧ True ∧ decide (Mg.fr m = Mg.fr m) = true ∧ decide (Mg.fr m = Mg.fr m) = true ∧ True ∧ decide (Mg.fr m = Mg.fr m) = true ∧ decide (Mg.fr m = Mg.fr m) = true
  ∧ decide (Mg.fr m = Mg.fr m) = true ∧ decide (Mg.to m = Mg.to m) = true ∧ True ∧ decide (Mg.to m = Mg.to m) = true ∧ decide (Mg.to m = Mg.to m) = true ∧ True ∧ decide (Mg.to
  m = Mg.to m) = true ∧ decide (Mg.to m = Mg.to m) = true ∧ decide (Mg.to m = Mg.to m) = true ∧ decide (Mg.bl m = Mg.bl m) = true ∧ True ∧ decide (Mg.bl m = Mg.bl m) = true ∧
  decide (Mg.bl m = Mg.bl m) = true ∧ True ∧ decide (Mg.bl m = Mg.bl m) = true ∧ decide (Mg.bl m = Mg.bl m) = true ∧ decide (Mg.bl m = Mg.bl m) = true ∧ decide (Mg.sl m = Mg.sl
  m) = true ∧ True ∧ decide (Mg.sl m = Mg.sl m) = true ∧ decide (Mg.sl m = Mg.sl m) = true ∧ True ∧ decide (Mg.sl m = Mg.sl m) = true ∧ decide (Mg.sl m = Mg.sl m) = true ∧ True
  ∧ decide (Mg.sl m = Mg.sl m) = true ∧ (decide (Mg.ab m = Mg.ab m) && (natsEq (Mg.av m) (Mg.av m) && true)) = true ∧ True ∧ (decide (Mg.ab m = Mg.ab m) && (natsEq (Mg.av m)
  (Mg.av m) && true)) = true ∧ (decide (Mg.ab m = Mg.ab m) && (natsEq (Mg.av m) (Mg.av m) && true)) = true ∧ True ∧ (decide (Mg.ab m = Mg.ab m) && (natsEq (Mg.av m) (Mg.av m)
  && true)) = true ∧ (decide (Mg.ab m = Mg.ab m) && (natsEq (Mg.av m) (Mg.av m) && true)) = true ∧ (decide (Mg.ab m = Mg.ab m) && (natsEq (Mg.av m) (Mg.av m) && true)) = true ∧
  Lf) := by unfold VD VQ; kernel_rfl
theorem s0_vq : VD Try.prog 21 [.l0, .l0] [] (Orc.c (Orc.inl (Orc.c Orc.z))) (.b true) [] [] 0 (fun Lf => Lf) := by unfold VD VQ; kernel_rfl
theorem s1_vq (m : Mg) : VD Try.prog 21 [mg1 m, mg1 m] [] (Orc.c (Orc.inl (Orc.c (Orc.cal [] (.b true) [] (Orc.c (Orc.inl (Orc.c Orc.z))))))) (.b true) [] [] 0 (fun Lf => ((0 :
  Int) ≤ (0 : Int) ∧ (0 : Int) < (1 : Int)) ∧ True ∧ ((0 : Int) ≤ (0 : Int) ∧ (0 : Int) < (1 : Int)) ∧ True ∧ Con Try.prog 25 [.agg [.i .i64 (Mg.k m), .i .i64 (Mg.fr m), .i
  .i64 (Mg.to m), .i .i64 (Mg.bl m), .i .i64 (Mg.sl m), .i .i64 (Mg.ab m), .s (Mg.av m), .s (Mg.st m), .i .i64 (Cm.k (Mg.c m)), .i .i64 (Cm.sv (Mg.c m)), .i .i64 (Cm.bt (Mg.c
  m)), .i .i64 (Cm.sq (Mg.c m)), .i .i64 (Cm.gn (Mg.c m)), .i .i64 (Cm.lk (Mg.c m)), .i .i64 (Cm.md (Mg.c m)), .i .i64 (Cm.ot (Mg.c m)), isv (Cm.mn (Mg.c m)) (Cm.mf (Mg.c m)),
  .i .i64 (Cm.d (Mg.c m)), .i .i64 (Mb.x (Mg.v m) 6), .i .i64 (Mb.x (Mg.v m) 7), .i .i64 (Mb.x (Mg.v m) 8), isv (Mb.mn (Mg.v m)) (Mb.mf (Mg.v m)), isv (Mb.sn (Mg.v m)) (Mb.sf
  (Mg.v m)), svN (Mb.hn (Mg.v m)) (Mb.hA (Mg.v m)) (Mb.hM (Mg.v m)) (Mb.hW (Mg.v m)), svN (Mb.dn (Mg.v m)) (Mb.dA (Mg.v m)) (Mb.dM (Mg.v m)) (Mb.dW (Mg.v m))], .agg [.i .i64
  (Mg.k m), .i .i64 (Mg.fr m), .i .i64 (Mg.to m), .i .i64 (Mg.bl m), .i .i64 (Mg.sl m), .i .i64 (Mg.ab m), .s (Mg.av m), .s (Mg.st m), .i .i64 (Cm.k (Mg.c m)), .i .i64 (Cm.sv
  (Mg.c m)), .i .i64 (Cm.bt (Mg.c m)), .i .i64 (Cm.sq (Mg.c m)), .i .i64 (Cm.gn (Mg.c m)), .i .i64 (Cm.lk (Mg.c m)), .i .i64 (Cm.md (Mg.c m)), .i .i64 (Cm.ot (Mg.c m)), isv
  (Cm.mn (Mg.c m)) (Cm.mf (Mg.c m)), .i .i64 (Cm.d (Mg.c m)), .i .i64 (Mb.x (Mg.v m) 6), .i .i64 (Mb.x (Mg.v m) 7), .i .i64 (Mb.x (Mg.v m) 8), isv (Mb.mn (Mg.v m)) (Mb.mf (Mg.v
  m)), isv (Mb.sn (Mg.v m)) (Mb.sf (Mg.v m)), svN (Mb.hn (Mg.v m)) (Mb.hA (Mg.v m)) (Mb.hM (Mg.v m)) (Mb.hW (Mg.v m)), svN (Mb.dn (Mg.v m)) (Mb.dA (Mg.v m)) (Mb.dM (Mg.v m))
  (Mb.dW (Mg.v m))]] [] (.b true) [] ∧ True ∧ rg (1) ∧ Lf) := by unfold VD VQ; kernel_rfl
theorem frP2_ : frP2 := by unfold frP2; simp
theorem rtime36 (n : Int) : Con Try.prog 36 [.i .i64 n] [] (.b (wi n 0 4503599627370496)) [] := rtime_con n
theorem tm36 {t : Int} (e : fE t = 0) : Con Try.prog 36 [.i .i64 t] [] (.b true) [] := by
  have := rtime36 t
  unfold fE at e
  cases hw : wi t 0 4503599627370496 with
  | true => rwa [hw] at this
  | false => rw [hw] at e; exact absurd e (by decide)
theorem tm36F {t : Int} (e : fE t = 2) : Con Try.prog 36 [.i .i64 t] [] (.b false) [] := by
  have := rtime36 t
  unfold fE at e
  cases hw : wi t 0 4503599627370496 with
  | true => rw [hw] at e; exact absurd e (by decide)
  | false => rwa [hw] at this
theorem rnw_con (s b p : Int) (h : nwB s b p = true) : Con Try.prog 15 [.i .i64 s, .i .i64 b, .i .i64 p] [] (.tup [.agg (clL (cl0 s b p)), .i .i64 0]) [] := by
  unfold nwB wi at h
  simp only [Bool.and_eq_true, decide_eq_true_eq] at h
  obtain ⟨⟨a1, a2⟩, ⟨a3, a4⟩, a5, a6⟩ := h
  have h0 : decide (s < 0) = false := decide_eq_false (by omega)
  have h1 : decide (2 < s) = false := decide_eq_false (by omega)
  have h2 : decide (b < 1) = false := decide_eq_false (by omega)
  have h3 : decide (1099511627776 < b) = false := decide_eq_false (by omega)
  have h4 : decide (p < 1) = false := decide_eq_false (by omega)
  have h5 : decide (3 < p) = false := decide_eq_false (by omega)
  refine Con.post (con_d (rn6_vq s b p h0 h1 h2 h3 h4 h5) (by repeat' first | exact trivial | assumption | exact nF h0 | exact nnF h0 | exact nF h1 | exact nnF h1 | exact nF h2 | exact nnF h2 | exact nF h3 | exact nnF h3 | exact nF h4 | exact nnF h4 | exact nF h5 | exact nnF h5 | exact rfl | apply And.intro)) ?_ trivial
  exact .tup ⟨.agg ⟨.refl _, .refl _, .refl _, .refl _, .refl _, .refl _, .refl _, .refl _, .refl _, .refl _, .refl _, .refl _, .refl _, .refl _, .nil _ _, .refl _, .refl _, .refl _, trivial⟩, .refl _, trivial⟩
theorem rnwN_con (s b p : Int) (h : nwB s b p = false) : Con Try.prog 15 [.i .i64 s, .i .i64 b, .i .i64 p] [] (.tup [.agg clZL, .i .i64 2]) [] := by
  cases h0 : decide (s < 0) with
  | true => exact con_d (rn0_vq s b p h0) (by repeat' first | exact trivial | assumption | exact nT h0 | exact nnT h0 | exact rfl | apply And.intro)
  | false =>
    cases h1 : decide (2 < s) with
    | true => exact con_d (rn1_vq s b p h0 h1) (by repeat' first | exact trivial | assumption | exact nF h0 | exact nnF h0 | exact nT h1 | exact nnT h1 | exact rfl | apply And.intro)
    | false =>
      cases h2 : decide (b < 1) with
      | true => exact con_d (rn2_vq s b p h0 h1 h2) (by repeat' first | exact trivial | assumption | exact nF h0 | exact nnF h0 | exact nF h1 | exact nnF h1 | exact nT h2 | exact nnT h2 | exact rfl | apply And.intro)
      | false =>
        cases h3 : decide (1099511627776 < b) with
        | true => exact con_d (rn3_vq s b p h0 h1 h2 h3) (by repeat' first | exact trivial | assumption | exact nF h0 | exact nnF h0 | exact nF h1 | exact nnF h1 | exact nF h2 | exact nnF h2 | exact nT h3 | exact nnT h3 | exact rfl | apply And.intro)
        | false =>
          cases h4 : decide (p < 1) with
          | true => exact con_d (rn4_vq s b p h0 h1 h2 h3 h4) (by repeat' first | exact trivial | assumption | exact nF h0 | exact nnF h0 | exact nF h1 | exact nnF h1 | exact nF h2 | exact nnF h2 | exact nF h3 | exact nnF h3 | exact nT h4 | exact nnT h4 | exact rfl | apply And.intro)
          | false =>
            have h5 : decide (3 < p) = true := decide_eq_true (by
              have h0 := of_decide_eq_false h0
              have h1 := of_decide_eq_false h1
              have h2 := of_decide_eq_false h2
              have h3 := of_decide_eq_false h3
              have h4 := of_decide_eq_false h4
              unfold nwB wi at h
              rw [decide_eq_true (show 0 ≤ s by omega), decide_eq_true (show s ≤ 2 by omega), decide_eq_true (show 1 ≤ b by omega), decide_eq_true (show b ≤ 1099511627776 by omega), decide_eq_true (show 1 ≤ p by omega)] at h
              have : ¬ p ≤ 3 := of_decide_eq_false (by simpa using h)
              omega)
            exact con_d (rn5_vq s b p h0 h1 h2 h3 h4 h5) (by repeat' first | exact trivial | assumption | exact nF h0 | exact nnF h0 | exact nF h1 | exact nnF h1 | exact nF h2 | exact nnF h2 | exact nF h3 | exact nnF h3 | exact nF h4 | exact nnF h4 | exact nT h5 | exact nnT h5 | exact rfl | apply And.intro)
theorem rtN_con (y : Cl) (t : Int) (h : tdB y t = false) (r : rg (y.l + 6)) : Con Try.prog 16 [.agg (clL y), .i .i64 t] [] (.tup [.agg (clL y), .l0, .i .i64 (fE t)]) [] := by
  unfold tdB at h
  rcases fE_cases t with e | e
  · have tm := tm36 e
    rw [e] at h ⊢
    cases ho : y.o with
    | false => exact con_d (rt1_vq y t ho) (by repeat' first | exact trivial | assumption | exact nF ho | exact nnF ho | exact rfl | apply And.intro)
    | true =>
      have h2 : decide (t < y.l + 6) = true := by rw [ho] at h; simpa using h
      exact con_d (rt2_vq y t ho h2) (by repeat' first | exact trivial | assumption | exact nT ho | exact nnT ho | exact nT h2 | exact nnT h2 | exact rfl | apply And.intro)
  · have tm := tm36F e
    rw [e]
    exact con_d (rt0_vq y t) (by repeat' first | exact trivial | assumption | exact rfl | apply And.intro)
theorem rtY_con (y : Cl) (t : Int) (h : tdB y t = true) (r : rg (y.l + 6)) (r2 : rg (y.q + 1)) (r3 : rg (8 + y.s)) (hp : y.p ≠ 0) (hs : y.s = y.c.sv) : Con Try.prog 16 [.agg (clL y), .i .i64 t] [] (.tup [.agg (clL (rtS y t)), mg1 (rqM (rtS y t)), .i .i64 0]) [] := by
  unfold tdB at h
  simp only [Bool.and_eq_true, Bool.not_eq_true', decide_eq_true_eq] at h
  obtain ⟨e, ho, h2⟩ := h
  have tm := tm36 e
  refine Con.post (con_f (rt3_fq y t ho h2) frP2_ (by repeat' first | exact trivial | assumption | exact nT ho | exact nnT ho | exact nF h2 | exact nnF h2 | exact rfl | apply And.intro)) (.tup ⟨.refl _, mg1_of _ _ _ _ (rtS y t) hs rfl rfl, .refl _, trivial⟩) trivial
def rkB (y : Cl) (m : Mg) : Bool := decide (m.k = 9) && (decide (m.to = 8 + y.s) && (!decide (m.fr < 0) && (!decide (y.p ≤ m.fr) && (y.o && (decide (m.c.sv = y.s) && (decide (m.c.bt = y.b) && decide (m.c.sq = y.c.sq)))))))
theorem rkN_con (y : Cl) (m : Mg) (h : rkB y m = false) (r : rg (8 + y.s)) : Con Try.prog 18 [.agg (clL y), mgV m] [] (.tup [.agg (clL y), .agg (vwL mb0), .i .i64 0, .b false]) [] := by
  have vw : VW (.tup [.agg (clL y), .agg [.i .i64 0, .i .i64 0, .i .i64 0, .l0, .l0, .l0, .l0], .i .i64 0, .b false]) (.tup [.agg (clL y), .agg (vwL mb0), .i .i64 0, .b false]) := .tup ⟨.refl _, .agg ⟨.refl _, .refl _, .refl _, .nil _ _, .nil _ _, .nil _ _, .nil _ _, trivial⟩, .refl _, .refl _, trivial⟩
  refine Con.post (us := []) ?_ vw trivial
  unfold rkB at h
  cases h0 : decide (m.k = 9) with
  | false => exact con_d (rk0_vq y m h0) (by repeat' first | exact trivial | assumption | exact nF h0 | exact nnF h0 | exact rfl | apply And.intro)
  | true =>
    rw [h0, Bool.true_and] at h
    cases h1 : decide (m.to = 8 + y.s) with
    | false => exact con_d (rk1_vq y m h0 h1) (by repeat' first | exact trivial | assumption | exact nT h0 | exact nnT h0 | exact nF h1 | exact nnF h1 | exact rfl | apply And.intro)
    | true =>
      rw [h1, Bool.true_and] at h
      cases h2 : decide (m.fr < 0) with
      | true => exact con_d (rk2_vq y m h0 h1 h2) (by repeat' first | exact trivial | assumption | exact nT h0 | exact nnT h0 | exact nT h1 | exact nnT h1 | exact nT h2 | exact nnT h2 | exact rfl | apply And.intro)
      | false =>
        rw [h2, Bool.not_false, Bool.true_and] at h
        cases h3 : decide (y.p ≤ m.fr) with
        | true => exact con_d (rk3_vq y m h0 h1 h2 h3) (by repeat' first | exact trivial | assumption | exact nT h0 | exact nnT h0 | exact nT h1 | exact nnT h1 | exact nF h2 | exact nnF h2 | exact nT h3 | exact nnT h3 | exact rfl | apply And.intro)
        | false =>
          rw [h3, Bool.not_false, Bool.true_and] at h
          cases h4 : y.o with
          | false => exact con_d (rk4_vq y m h0 h1 h2 h3 h4) (by repeat' first | exact trivial | assumption | exact nT h0 | exact nnT h0 | exact nT h1 | exact nnT h1 | exact nF h2 | exact nnF h2 | exact nF h3 | exact nnF h3 | exact nF h4 | exact nnF h4 | exact rfl | apply And.intro)
          | true =>
            rw [h4, Bool.true_and] at h
            cases h5 : decide (m.c.sv = y.s) with
            | false => exact con_d (rk5_vq y m h0 h1 h2 h3 h4 h5) (by repeat' first | exact trivial | assumption | exact nT h0 | exact nnT h0 | exact nT h1 | exact nnT h1 | exact nF h2 | exact nnF h2 | exact nF h3 | exact nnF h3 | exact nT h4 | exact nnT h4 | exact nF h5 | exact nnF h5 | exact rfl | apply And.intro)
            | true =>
              rw [h5, Bool.true_and] at h
              cases h6 : decide (m.c.bt = y.b) with
              | false => exact con_d (rk6_vq y m h0 h1 h2 h3 h4 h5 h6) (by repeat' first | exact trivial | assumption | exact nT h0 | exact nnT h0 | exact nT h1 | exact nnT h1 | exact nF h2 | exact nnF h2 | exact nF h3 | exact nnF h3 | exact nT h4 | exact nnT h4 | exact nT h5 | exact nnT h5 | exact nF h6 | exact nnF h6 | exact rfl | apply And.intro)
              | true =>
                rw [h6, Bool.true_and] at h
                exact con_d (rk7_vq y m h0 h1 h2 h3 h4 h5 h6 h) (by repeat' first | exact trivial | assumption | exact nT h0 | exact nnT h0 | exact nT h1 | exact nnT h1 | exact nF h2 | exact nnF h2 | exact nF h3 | exact nnF h3 | exact nT h4 | exact nnT h4 | exact nT h5 | exact nnT h5 | exact nT h6 | exact nnT h6 | exact nF h | exact nnF h | exact rfl | apply And.intro)
theorem rkY_con (y : Cl) (m : Mg) (h : rkB y m = true) (r : rg (8 + y.s)) (hv : okB m.v) : Con Try.prog 18 [.agg (clL y), mgV m] [] (.tup [.agg (clL (rkS y m)), .agg (vwL m.v), .i .i64 y.f, .b true]) [] := by
  have cv := c52_con m.v hv
  unfold rkB at h
  simp only [Bool.and_eq_true, Bool.not_eq_true'] at h
  obtain ⟨h0, h1, h2, h3, h4, h5, h6, h7⟩ := h
  refine Con.post (con_d (rk8_vq y m h0 h1 h2 h3 h4 h5 h6 h7) (by repeat' first | exact trivial | assumption | exact nT h0 | exact nnT h0 | exact nT h1 | exact nnT h1 | exact nF h2 | exact nnF h2 | exact nF h3 | exact nnF h3 | exact nT h4 | exact nnT h4 | exact nT h5 | exact nnT h5 | exact nT h6 | exact nnT h6 | exact nT h7 | exact nnT h7 | exact rfl | apply And.intro)) ?_ trivial
  exact .tup ⟨.agg ⟨.refl _, .refl _, .refl _, .refl _, .refl _, .refl _, .refl _, .refl _, .refl _, .refl _, .refl _, .refl _, .refl _, .refl _, .nil _ _, .refl _, .refl _, .refl _, trivial⟩, .refl _, .refl _, .refl _, trivial⟩
theorem maB_cases {c : Cm} (h : maB c = false) : vcB c = false ∨ (vcB c = true ∧ decide (c.k = 8) = true) ∨ (vcB c = true ∧ decide (c.k = 8) = false ∧ decide (c.d = 0) = false) := by
  unfold maB at h
  cases h1 : vcB c with
  | false => exact .inl rfl
  | true =>
    rw [h1, Bool.true_and] at h
    cases h2 : decide (c.k = 8) with
    | true => exact .inr (.inl ⟨rfl, rfl⟩)
    | false => rw [h2, Bool.not_false, Bool.true_and] at h; exact .inr (.inr ⟨rfl, rfl, h⟩)
theorem raN_con (y : Cl) (t : Int) (c : Cm) (h : decide (akE y t c = 0) = false) (r : decide (1099511627776 ≤ y.n) = false → rg (y.n + 1)) (hm : c.mn ≤ 1152921504606846976) : Con Try.prog 20 [.agg (clL y), .i .i64 t, cmV c] [] (.tup [.agg (clL y), .l0, .i .i64 (akE y t c)]) [] := by
  have rv := rvalidc_ok (akC y c) hm
  unfold akE at h ⊢
  rcases fE_cases t with e | e
  · have tm := tm36 e
    rw [e] at h ⊢
    rw [show decide ((0 : Int) = 2) = false from rfl, cond_false] at h ⊢
    cases hn : decide (1099511627776 ≤ y.n) with
    | true => rw [cond_true]; exact con_d (ra1_vq y c t hn) (by repeat' first | exact trivial | assumption | exact nT hn | exact nnT hn | exact rfl | apply And.intro)
    | false =>
      rw [hn, cond_false] at h
      rw [cond_false]
      have r := r hn
      cases hv : maB (akC y c) with
      | false =>
        rw [Bool.not_false, cond_true]
        rcases maB_cases hv with q | ⟨q, q2⟩ | ⟨q, q2, q3⟩
        · rw [q] at rv
          exact con_d (ra2_vq y c t hn) (by repeat' first | exact trivial | assumption | exact nF hn | exact nnF hn | exact rfl | apply And.intro)
        · rw [q] at rv
          have q2 : decide (c.k = 8) = true := q2
          exact con_d (ra3_vq y c t hn q2) (by repeat' first | exact trivial | assumption | exact nF hn | exact nnF hn | exact nT q2 | exact nnT q2 | exact rfl | apply And.intro)
        · rw [q] at rv
          have q2 : decide (c.k = 8) = false := q2
          have q3 : decide (c.d = 0) = false := q3
          exact con_d (ra4_vq y c t hn q2 q3) (by repeat' first | exact trivial | assumption | exact nF hn | exact nnF hn | exact nF q2 | exact nnF q2 | exact nF q3 | exact nnF q3 | exact rfl | apply And.intro)
      | true =>
        rw [hv] at h
        rw [Bool.not_true, cond_false] at h ⊢
        unfold maB at hv
        simp only [Bool.and_eq_true, Bool.not_eq_true'] at hv
        obtain ⟨q, q2, q3⟩ := hv
        rw [q] at rv
        have q2 : decide (c.k = 8) = false := q2
        have q3 : decide (c.d = 0) = true := q3
        cases ho : y.o with
        | true => exact con_d (ra5_vq y c t hn q2 q3 ho) (by repeat' first | exact trivial | assumption | exact nF hn | exact nnF hn | exact nF q2 | exact nnF q2 | exact nT q3 | exact nnT q3 | exact nT ho | exact nnT ho | exact rfl | apply And.intro)
        | false => rw [ho] at h; exact absurd h (by simp)
  · have tm := tm36F e
    rw [e]
    exact con_d (ra0_vq y c t) (by repeat' first | exact trivial | assumption | exact rfl | apply And.intro)
theorem shiftF_0 (F : Nat → Nat → CV) : shiftF 0 F = F := by
  funext i j
  rw [shiftF_eq, Nat.zero_add]
theorem ra_lp (y : Cl) (c : Cm) (t : Int) (hm : c.mn ≤ 17592186044416) : LDoes Try.prog (loopAt Try.prog 20 0) 77 3 (mkT [(1, .i .i64 t), (3, .p 0 0), (5, .p 1 0), (6, .p 2 0), (9, .l0), (10, .i .i64 0)]) [some (clR y), some (cmO (akC y c)), some clZ] (.exit 0) (mkT [(1, .i .i64 t), (3, .p 0 0), (5, .p 1 0), (6, .p 2 0), (9, isv c.mn c.mf)]) [some (clR y), some (cmO (akC y c)), some clZ, none] := by
  have key := loop_q (P := Try.prog) (c := loopAt Try.prog 20 0) (n := 77) (b := 3) (x := .exit 0) (l' := [(1, .i .i64 t), (3, .p 0 0), (5, .p 1 0), (6, .p 2 0), (9, .lr 3 1 0 c.mn false)]) (objs' := [some (clR y), some (cmO (akC y c)), some clZ, some (.rows 3 1 c.mn fun i _ => .i .i64 (c.mf i))]) (D := Nat)
    (fun i : Nat => ([(1, .i .i64 t), (3, .p 0 0), (5, .p 1 0), (6, .p 2 0), (9, .lr 3 1 0 i false), (10, .i .i64 (Int.ofNat i))], [some (clR y), some (cmO (akC y c)), some clZ, some (.rows 3 1 i fun i _ => .i .i64 (c.mf i))])) (fun i => c.mn - i) (fun i => i ≤ c.mn) (fun _ => by simp) ?_ 0 (Nat.zero_le _)
  · have k2 := key.weak (l0 := [(1, .i .i64 t), (3, .p 0 0), (5, .p 1 0), (6, .p 2 0), (9, .l0), (10, .i .i64 0)]) (objs0 := [some (clR y), some (cmO (akC y c)), some clZ]) ⟨rfl, .inl rfl, rfl, .inl rfl, rfl, .inl rfl, rfl, .inl rfl, rfl, .inr ⟨rfl, .inl ⟨3, 1, 0, false, rfl⟩⟩, rfl, .inl rfl, trivial⟩ ⟨.refl _, .refl _, .refl _, fun o ho => by
      simp at ho; subst ho
      exact ⟨_, rfl, rfl⟩⟩
    have e : (9, isv c.mn c.mf) = ((9 : Nat), AV.sv 1 c.mn (shiftF 0 fun i _ => .i .i64 (c.mf i))) := by rw [shiftF_0]; rfl
    rw [e]
    exact k2.frzT 3 (e := 3) (sz := 1) (m := c.mn) (f := fun i _ => .i .i64 (c.mf i)) rfl ⟨rfl, .inl rfl, rfl, .inl rfl, rfl, .inl rfl, rfl, .inl rfl, rfl, .inr ⟨rfl, ⟨rfl, by omega⟩⟩, trivial⟩ ⟨.inl rfl, .inl rfl, .inl rfl, rfl, trivial⟩
  intro i hi
  by_cases e : i = c.mn
  · have h1 : decide (Int.ofNat i < Int.ofNat c.mn) = false := by simp; omega
    have := rd_out (I := fun i : Nat => ([(1, .i .i64 t), (3, .p 0 0), (5, .p 1 0), (6, .p 2 0), (9, .lr 3 1 0 i false), (10, .i .i64 (Int.ofNat i))], [some (clR y), some (cmO (akC y c)), some clZ, some (.rows 3 1 i fun i _ => .i .i64 (c.mf i))])) (μ := fun i => c.mn - i) (inv := fun i => i ≤ c.mn) (d := i) (l' := [(1, .i .i64 t), (3, .p 0 0), (5, .p 1 0), (6, .p 2 0), (9, .lr 3 1 0 c.mn false)]) (objs' := [some (clR y), some (cmO (akC y c)), some clZ, some (.rows 3 1 c.mn fun i _ => .i .i64 (c.mf i))]) (raE_lq y c t (fun i _ => .i .i64 (c.mf i)) i i h1) (by repeat' first | exact trivial | exact h1 | exact rfl | apply And.intro) rfl rfl (by rw [← e]; exact .refl _) (by rw [← e]; exact .refl _)
    exact this
  · have hl : i < c.mn := by omega
    have h1 : decide (Int.ofNat i < Int.ofNat c.mn) = true := by simp; omega
    have bi : (0 : Int) ≤ Int.ofNat i ∧ Int.ofNat i < (↑(c.mn) : Int) := ⟨by simp, by simp; omega⟩
    have ri : rg (Int.ofNat i + 1) := ⟨by simp <;> omega, by simp <;> omega⟩
    have b1 : 0 + i ≤ i := by omega
    have b2 : i + 1 ≤ 140737488355328 := by omega
    have b3 : (3 * (i + 1) + 1536) * 8 ≤ 562949953421312 := by omega
    refine rd_nrm (raR_lq y c t (fun i _ => .i .i64 (c.mf i)) i i h1) (by repeat' first | exact trivial | exact h1 | exact bi | exact ri | exact b1 | exact b2 | exact b3 | exact rfl | apply And.intro) (i + 1) hl (by show c.mn - (i + 1) < c.mn - i; omega) rfl ?_ ?_
    · rw [addN_eq]; exact .refl _
    · refine ⟨.refl _, .refl _, .refl _, ?_, trivial⟩
      rw [addN_eq]
      refine OV.rowsW fun j k hj hc => CW.of ?_
      obtain rfl : k = 0 := by omega
      rw [appZ_i (k := .i64) (a := c.mf j) (b := c.mf i) rfl rfl]
      by_cases d : j < i
      · rw [if_pos d]
      · obtain rfl : j = i := by omega
        rw [if_neg d]
theorem raY_con (y : Cl) (t : Int) (c : Cm) (h : decide (akE y t c = 0) = true) (r : rg (y.n + 1)) (r3 : rg (8 + y.s)) (hm : c.mn ≤ 17592186044416) : Con Try.prog 20 [.agg (clL y), .i .i64 t, cmV c] [] (.tup [.agg (clL (akS y t c)), mg1 (rqM (akS y t c)), .i .i64 0]) [] := by
  have rv := rvalidc_ok (akC y c) (Nat.le_trans hm (by decide))
  obtain ⟨e, hn, hv, ho⟩ := akE0 h
  have tm := tm36 e
  unfold maB at hv
  simp only [Bool.and_eq_true, Bool.not_eq_true'] at hv
  obtain ⟨q, q2, q3⟩ := hv
  rw [q] at rv
  have q2 : decide (c.k = 8) = false := q2
  have q3 : decide (c.d = 0) = true := q3
  have lp := ra_lp y c t hm
  refine Con.post (con_f (ra6_fq y c t hn q2 q3 ho) frP2_ (by repeat' first | exact trivial | assumption | exact nF hn | exact nnF hn | exact nF q2 | exact nnF q2 | exact nT q3 | exact nnT q3 | exact nF ho | exact nnF ho | exact rfl | apply And.intro)) (.tup ⟨.refl _, mg1_of _ _ _ _ (akS y t c) rfl rfl rfl, .refl _, trivial⟩) trivial
theorem nats_self (l : List Nat) : natsEq l l = true := (natsEq_iff l l).2 rfl
theorem sm_con (m : Mg) (hm : m.c.mn ≤ 17592186044416) (hv : okB m.v) : Con Try.prog 25 [mgV m, mgV m] [] (.b true) [] := by
  have h : (decide (m.ab = m.ab) && (natsEq m.av m.av && true)) = true := by rw [nats_self, decide_eq_true rfl]; rfl
  have sc := sce_con m.c (Nat.le_trans hm (by decide))
  have sv := sv_con m.v hv
  have d : ∀ z : Int, decide (z = z) = true := fun z => decide_eq_true rfl
  have := con_d (sm_vq m h) (by repeat' first | exact trivial | assumption | exact d _ | exact nT (d _) | exact nnT (d _) | exact nT h | exact nnT h | exact rfl | apply And.intro)
  rwa [nats_self] at this
theorem ss0_con : Con Try.prog 21 [.l0, .l0] [] (.b true) [] := con_d s0_vq (by repeat' first | exact trivial | exact rfl | apply And.intro)
theorem ss1_con (m : Mg) (hm : m.c.mn ≤ 17592186044416) (hv : okB m.v) : Con Try.prog 21 [mg1 m, mg1 m] [] (.b true) [] := by
  have sm := sm_con m hm hv
  exact con_d (s1_vq m) (by repeat' first | exact trivial | assumption | exact ⟨by decide, by decide⟩ | exact rfl | apply And.intro)
def yOf (x : Cl) (f l : Int) : Cl := { x with f := f, l := l }
structure PI (s b : Int) (x : Cl) (f l : Int) : Prop where
  I : OI s b x
  h : x.o = true → f = x.f ∧ l = x.l
  c0 : x.o = false → x.c = cm0
  l0 : 0 ≤ l
  l1 : l ≤ 4503599627370496
theorem PI.td {s b : Int} {x : Cl} {f l : Int} (h : PI s b x f l) (t : Int) : tdB (yOf x f l) t = tdB x t := by
  unfold tdB yOf
  cases ho : x.o with
  | false => simp
  | true => simp only [(h.h ho).2]
theorem PI.tk {s b : Int} {x : Cl} {f l : Int} (h : PI s b x f l) (m : Mg) : rkB (yOf x f l) m = tkB x m := by
  have I := h.I
  unfold rkB tkB mcB iaB wi yOf
  cases ho : x.o with
  | false => simp
  | true =>
    simp only [I.sv ho, I.bt ho, I.xs, I.xb, I.xp, Bool.true_and]
    by_cases a : m.fr < 0
    · rw [decide_eq_true a, decide_eq_false (show ¬ 0 ≤ m.fr by omega)]; simp
    · rw [decide_eq_false a, decide_eq_true (show 0 ≤ m.fr by omega)]
      by_cases c : 3 ≤ m.fr
      · rw [decide_eq_true c, decide_eq_false (show ¬ m.fr ≤ 3 - 1 by omega)]; simp
      · rw [decide_eq_false c, decide_eq_true (show m.fr ≤ 3 - 1 by omega)]; simp [Bool.and_assoc]
theorem PI.oc {s b : Int} {x : Cl} {f l : Int} (h : PI s b x f l) : opC x = x.c := by
  unfold opC
  cases ho : x.o with
  | false => rw [cond_false, h.c0 ho]
  | true => rfl
theorem PI.tend {s b : Int} {x : Cl} {f l : Int} (h : PI s b x f l) {t : Int} (hb : tdB x t = true) : PI s b (tdS x t) f t ∧ rtS (yOf x f l) t = yOf (tdS x t) f t := by
  have hb' := hb
  unfold tdB at hb'
  simp only [Bool.and_eq_true, decide_eq_true_eq] at hb'
  have hf := fE_b hb'.1
  have ho := hb'.2.1
  have nm := nq_mod h.I.q0 (by rw [h.I.xp]; have := h.I.q2; omega) (by rw [h.I.xp]; decide)
  refine ⟨⟨h.I.tend hb, fun _ => ⟨(h.h ho).1, rfl⟩, fun q => ?_, hf.1, hf.2⟩, ?_⟩
  · rw [show (tdS x t).o = x.o from rfl, ho] at q; cases q
  · unfold rtS yOf tdS
    simp only [nm]
theorem PI.take {s b : Int} {x : Cl} {f l : Int} (h : PI s b x f l) {m : Mg} (hb : tkB x m = true) : PI s b (tkS x m) f l ∧ rkS (yOf x f l) m = yOf (tkS x m) f l :=
  ⟨⟨h.I.take hb, (fun q => by cases q), fun _ => rfl, h.l0, h.l1⟩, rfl⟩
theorem PI.ask {s b : Int} {x : Cl} {f l : Int} (h : PI s b x f l) {t : Int} {c : Cm} (hm : c.mn ≤ 17592186044416) (hb : decide (akE x t c = 0) = true) : PI s b (akS x t c) t t :=
  have hf := fE_b (akE0 hb).1
  ⟨h.I.ask hm hb, fun _ => ⟨rfl, rfl⟩, (fun q => by cases q), hf.1, hf.2⟩
theorem mb0_ok : okB mb0 := ⟨Nat.zero_le _, Nat.zero_le _, Nat.zero_le _, Nat.zero_le _⟩
theorem bq (b : Bool) : (b == b) = true := by cases b <;> rfl
structure Pd where
  x : Cl
  f : Int
  l : Int
  i : Nat
noncomputable abbrev plT (O : Nat → Opx) (n : Nat) (i : Int) : List (Nat × AV) := [(6, .b false), (7, .p 0 0), (9, .p 1 0), (53, .sv 27 n (oxF O)), (54, .i .i64 (Int.ofNat n)), (55, .i .i64 i)]
theorem plays_lp (s b : Int) (O : Nat → Opx) (n : Nat) (hn : n ≤ 1152921504606846976) (hO : okO O) (x0 : Cl) (f0 l0 : Int) (h0 : PI s b x0 f0 l0) :
    LDoes Try.prog (loopAt Try.prog 4 0) 173 2 (mkT (plT O n 0)) [some (clO x0), some (clM (yOf x0 f0 l0))] (.exit 0) (mkT []) [none, none] := by
  refine loop_q (fun d : Pd => (plT O n (Int.ofNat d.i), [some (clO d.x), some (clM (yOf d.x d.f d.l))])) (fun d => n - d.i) (fun d => d.i ≤ n ∧ PI s b d.x d.f d.l) (fun _ => Nat.le_refl _) ?_ ⟨x0, f0, l0, 0⟩ ⟨Nat.zero_le _, h0⟩
  rintro ⟨x, f, l, i⟩ ⟨hi, P⟩
  dsimp only at hi P
  by_cases hlt : i < n
  · have h0 : decide (Int.ofNat i < Int.ofNat n) = true := decide_eq_true (by simp; omega)
    have bi : (0 : Int) ≤ Int.ofNat i ∧ Int.ofNat i < (↑n : Int) := ⟨by simp, by simp; omega⟩
    have ri : rg (Int.ofNat i + 1) := ⟨by simp <;> omega, by simp <;> omega⟩
    have mu : n - (i + 1) < n - i := by omega
    have hi' : i + 1 ≤ n := by omega
    have I := P.I
    have Is := I.s0
    have Is2 := I.s2
    have Iq := I.q0
    have Iq2 := I.q2
    have In := I.n0
    have In1 := I.n1
    have Il := I.l0
    have Il1 := I.l1
    have Pl := P.l0
    have Pl1 := P.l1
    have rl : rg (x.l + 6) := ⟨by omega, by omega⟩
    have rl' : rg ((yOf x f l).l + 6) := ⟨by show (-9223372036854775808 : Int) ≤ l + 6; omega, by show l + 6 ≤ (9223372036854775807 : Int); omega⟩
    have rs : rg (8 + x.s) := by rw [I.xs]; exact ⟨by omega, by omega⟩
    have rp : rg (x.p - 1) := by rw [I.xp]; exact ⟨by decide, by decide⟩
    have rq : rg (x.q + 1) := ⟨by omega, by omega⟩
    have rn : rg (x.n + 1) := ⟨by omega, by omega⟩
    have om := hO i
    have cp := mcp_con (O i).m om.1 om.2
    have op := op_con x I.mn
    rw [P.oc] at op
    have pe := pe_con x
    have ss0 := ss0_con
    have sc := sce_con x.c (Nat.le_trans I.mn (by decide))
    have sv0 := sv_con mb0 mb0_ok
    have sv1 := sv_con (O i).m.v om.2
    by_cases k1 : (O i).k = 1
    · have k1 : decide ((O i).k = 1) = true := decide_eq_true k1
      cases tb : tdB x (O i).t with
      | false =>
        have td := tdN_con x (O i).t tb rl
        have rt := rtN_con (yOf x f l) (O i).t (by rw [P.td]; exact tb) rl'
        exact rd_nrm (pa_lq x (yOf x f l) n O (fE (O i).t) x.c i h0 k1) (by repeat' first | exact trivial | assumption | exact tt1_ _ | exact tt0_ _ | exact nT (bq _) | exact nnT (bq _) | exact decide_eq_true rfl | exact rfl | apply And.intro) ⟨x, f, l, i + 1⟩ ⟨hi', P⟩ mu rfl (.refl _) (.refl _)
      | true =>
        have ho : x.o = true := by unfold tdB at tb; simp only [Bool.and_eq_true] at tb; exact tb.2.1
        have td := tdY_con x (O i).t tb rl rq (by rw [I.sv ho, ← I.xs]; exact rs) I.mn
        have rt := rtY_con (yOf x f l) (O i).t (by rw [P.td]; exact tb) rl' rq rs (by show x.p ≠ 0; rw [I.xp]; decide) (by show x.s = x.c.sv; rw [I.sv ho, I.xs])
        obtain ⟨J, e⟩ := P.tend tb
        rw [e] at rt
        have op2 := op_con (tdS x (O i).t) J.I.mn
        rw [J.oc] at op2
        have pe2 := pe_con (tdS x (O i).t)
        have ss1 := ss1_con (rqM (tdS x (O i).t)) I.mn mb0_ok
        exact rd_nrm (pb_lq x (tdS x (O i).t) (yOf x f l) (yOf (tdS x (O i).t) f (O i).t) (rqM (tdS x (O i).t)) n O x.c i h0 k1) (by repeat' first | exact trivial | assumption | exact tt1_ _ | exact tt0_ _ | exact nT (bq _) | exact nnT (bq _) | exact decide_eq_true rfl | exact rfl | apply And.intro) ⟨tdS x (O i).t, f, (O i).t, i + 1⟩ ⟨hi', J⟩ mu rfl (.refl _) (.refl _)
    · have k1 : decide ((O i).k = 1) = false := decide_eq_false k1
      by_cases k2 : (O i).k = 2
      · have k2 : decide ((O i).k = 2) = true := decide_eq_true k2
        cases tb : tkB x (O i).m with
        | false =>
          have tk := tkN_con x (O i).m tb rs rp
          have rk := rkN_con (yOf x f l) (O i).m (by rw [P.tk]; exact tb) rs
          exact rd_nrm (pc_lq x (yOf x f l) n O x.c i h0 k1 k2) (by repeat' first | exact trivial | assumption | exact tt1_ _ | exact tt0_ _ | exact nT (bq _) | exact nnT (bq _) | exact decide_eq_true rfl | exact rfl | apply And.intro) ⟨x, f, l, i + 1⟩ ⟨hi', P⟩ mu rfl (.refl _) (.refl _)
        | true =>
          have tk := tkY_con x (O i).m tb rs rp om.2
          have rk := rkY_con (yOf x f l) (O i).m (by rw [P.tk]; exact tb) rs om.2
          have ho : x.o = true := by unfold tkB at tb; simp only [Bool.and_eq_true] at tb; exact tb.1
          have ef : (yOf x f l).f = x.f := (P.h ho).1
          obtain ⟨J, e⟩ := P.take tb
          rw [e, ef] at rk
          have op2 := op_con (tkS x (O i).m) J.I.mn
          rw [J.oc] at op2
          have pe2 := pe_con (tkS x (O i).m)
          have sc2 := sce_con cm0 (Nat.zero_le _)
          exact rd_nrm (pd_lq x (tkS x (O i).m) (yOf x f l) (yOf (tkS x (O i).m) f l) n O x.f cm0 i h0 k1 k2) (by repeat' first | exact trivial | assumption | exact tt1_ _ | exact tt0_ _ | exact nT (bq _) | exact nnT (bq _) | exact decide_eq_true rfl | exact rfl | apply And.intro) ⟨tkS x (O i).m, f, l, i + 1⟩ ⟨hi', J⟩ mu rfl (.refl _) (.refl _)
      · have k2 : decide ((O i).k = 2) = false := decide_eq_false k2
        cases he : decide (akE x (O i).t (O i).m.c = 0) with
        | false =>
          have ak := akN_con x (O i).t (O i).m.c he (fun _ => rn) (Nat.le_trans om.1 (by decide))
          have ra := raN_con (yOf x f l) (O i).t (O i).m.c he (fun _ => rn) (Nat.le_trans om.1 (by decide))
          exact rd_nrm (pe_lq x (yOf x f l) n O (akE x (O i).t (O i).m.c) x.c i h0 k1 k2) (by repeat' first | exact trivial | assumption | exact tt1_ _ | exact tt0_ _ | exact nT (bq _) | exact nnT (bq _) | exact decide_eq_true rfl | exact rfl | apply And.intro) ⟨x, f, l, i + 1⟩ ⟨hi', P⟩ mu rfl (.refl _) (.refl _)
        | true =>
          have ak := akY_con x (O i).t (O i).m.c he rn rs om.1
          have ra := raY_con (yOf x f l) (O i).t (O i).m.c he rn rs om.1
          have J := P.ask om.1 he
          have op2 := op_con (akS x (O i).t (O i).m.c) J.I.mn
          rw [J.oc] at op2
          have pe2 := pe_con (akS x (O i).t (O i).m.c)
          have sc2 := sce_con (akC x (O i).m.c) (Nat.le_trans om.1 (by decide))
          have ss1 := ss1_con (rqM (akS x (O i).t (O i).m.c)) om.1 mb0_ok
          exact rd_nrm (pf_lq x (akS x (O i).t (O i).m.c) (yOf x f l) (yOf (akS x (O i).t (O i).m.c) (O i).t (O i).t) (rqM (akS x (O i).t (O i).m.c)) n O (akC x (O i).m.c) i h0 k1 k2) (by repeat' first | exact trivial | assumption | exact tt1_ _ | exact tt0_ _ | exact nT (bq _) | exact nnT (bq _) | exact decide_eq_true rfl | exact rfl | apply And.intro) ⟨akS x (O i).t (O i).m.c, (O i).t, (O i).t, i + 1⟩ ⟨hi', J⟩ mu rfl (.refl _) (.refl _)
  · have e : i = n := by omega
    have h0 : decide (Int.ofNat i < Int.ofNat n) = false := decide_eq_false (by simp; omega)
    exact rd_out (pE_lq x (yOf x f l) n O i h0) (by repeat' first | exact trivial | assumption | exact rfl | apply And.intro) rfl rfl (.refl _) ⟨noneC_ov _, noneC_ov _, trivial⟩
theorem law4_con (s b : Int) (n : Nat) (hn : n ≤ 1152921504606846976) (O : Nat → Opx) (hO : okO O) : Con Try.prog 4 [.i .i64 s, .i .i64 b, .sv 27 n (oxF O)] [] (.b true) [] := by
  cases hb : nwB s b 3 with
  | false => exact con_d (p0_vq s b n O) (by repeat' first | exact trivial | exact awake_con | exact new0_con s b 3 hb | exact rnwN_con s b 3 hb | exact rfl | apply And.intro)
  | true =>
    have lp := plays_lp s b O n hn hO (cl0 s b 3) 0 0 ⟨new_I hb, (fun q => by cases q), fun _ => rfl, Int.le_refl 0, (by decide)⟩
    exact con_d (p1_vq (cl0 s b 3) s b n O) (by repeat' first | exact trivial | exact awake_con | exact new1_con s b 3 hb | exact rnw_con s b 3 hb | exact lp | exact rfl | apply And.intro)
end Go.Proofs.Ck
