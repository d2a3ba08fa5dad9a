/- Runs over unknown values, told by the kernel: part GE. -/
import Derived.Test.YtgggnjjhfkijfaaGD
set_option linter.unusedSimpArgs false
set_option linter.unusedVariables false
set_option maxRecDepth 20000
namespace Go.Proofs.Ck
open Go Go.Sim Go.Proofs Go.Proofs.Lk Go.Proofs.Sv Go.Proofs.Ytgggnjjhfkijfaa
noncomputable abbrev aoL (x : Cl) (n : Nat) (f : Nat → Int) (t : Int) : List AV := [.i .i64 x.s, .i .i64 x.b, .i .i64 x.p, .i .i64 x.q, .i .i64 (x.n + 1), .b true, .i .i64 7, .i .i64 x.s, .i .i64 x.b, .i .i64 (x.n + 1), .i .i64 1, .i .i64 0, .i .i64 0, .i .i64 0, isv n f, .i .i64 0, .i .i64 t, .i .i64 t]
theorem cwA_vq (x : Cl) (f : Nat → Int) (F : Nat → Nat → CV) (n : Nat) (N : Nat) (a b c : Int) : VD Try.prog 29 [.agg [.i .i64 7, .i .i64 a, .i .i64 b, .i .i64 c, .i .i64 1, .i
  .i64 0, .i .i64 0, .i .i64 0, .lr 0 1 0 n false, .i .i64 0]] [some (.rows 3 1 N F)] (Orc.cal [0] (isv n f) [.keep] Orc.z) (.agg [.i .i64 7, .i .i64 a, .i .i64 b, .i .i64 c,
  .i .i64 1, .i .i64 0, .i .i64 0, .i .i64 0, .sv 1 n fun i _ => CV.i .i64 (f i), .i .i64 0]) [.keep] [] 3 (fun Lf => True ∧ Con Try.prog 46 [.lr 0 1 0 n false] [some
  (AObj.rows 3 1 N F)] (isv n f) [.keep] ∧ True ∧ Lf) := by unfold VD VQ; kernel_rfl
theorem cwB_vq (x : Cl) (f : Nat → Int) (n : Nat) (a b c : Int) : VD Try.prog 29 [.agg [.i .i64 7, .i .i64 a, .i .i64 b, .i .i64 c, .i .i64 1, .i .i64 0, .i .i64 0, .i .i64 0,
  isv n f, .i .i64 0]] [] (Orc.cal [] (.lr 0 1 0 n false) [.set (AObj.rows 3 1 n fun i _ => CV.i .i64 (f i))] Orc.z) (.agg [.i .i64 7, .i .i64 a, .i .i64 b, .i .i64 c, .i .i64
  1, .i .i64 0, .i .i64 0, .i .i64 0, .lr 0 1 0 n false, .i .i64 0]) [.set (.rows 3 1 n fun i _ => .i .i64 (f i))] [2] 3 (fun Lf => True ∧ Con Try.prog 46 [isv n f] [] (.lr 0 1
  0 n false) [.set (AObj.rows 3 1 n fun i _ => CV.i .i64 (f i))] ∧ True ∧ Lf) := by unfold VD VQ; kernel_rfl
theorem aoN_vq (x : Cl) (now : Int) (F : Nat → Nat → CV) (n : Nat) (N : Nat) (va : Bool) (h : decide (1099511627776 ≤ x.n) = false) (hv : va = false) : VD Try.prog 9 [.p 0 0,
  .i .i64 now, .agg [.i .i64 7, .i .i64 0, .i .i64 0, .i .i64 0, .i .i64 1, .i .i64 0, .i .i64 0, .i .i64 0, .lr 1 1 0 n false, .i .i64 0]] [some (clO x), some (.rows 3 1 N F)]
  (Orc.cal [0] (.i .i64 0) [.keep] (Orc.c (Orc.f (Orc.cal [1] (.b va) [.keep] (Orc.t Orc.z))))) (.tup [.l0, .i .i64 19]) [.keep, .keep] [] 3 (fun Lf => Con Try.prog 27 [.p 0 0,
  .i .i64 now] [some (clO x)] (.i .i64 0) [.keep] ∧ True ∧ decide (1099511627776 ≤ Cl.n x) = false ∧ True ∧ True ∧ True ∧ rg (Cl.n x + 1) ∧ True ∧ True ∧ True ∧ Con Try.prog 28
  [.agg [.i .i64 7, .i .i64 (Cl.s x), .i .i64 (Cl.b x), .i .i64 (Cl.n x + 1), .i .i64 1, .i .i64 0, .i .i64 0, .i .i64 0, .lr 0 1 0 n false, .i .i64 0]] [some (AObj.rows 3 1 N
  F)] (.b va) [.keep] ∧ True ∧ (!va) = true ∧ Lf) := by unfold VD VQ; kernel_rfl
theorem aoY_vq (x : Cl) (now : Int) (f : Nat → Int) (F : Nat → Nat → CV) (n : Nat) (N : Nat) (va : Bool) (h : decide (1099511627776 ≤ x.n) = false) (hv : va = true) (ho : x.o =
  false) : VD Try.prog 9 [.p 0 0, .i .i64 now, .agg [.i .i64 7, .i .i64 0, .i .i64 0, .i .i64 0, .i .i64 1, .i .i64 0, .i .i64 0, .i .i64 0, .lr 1 1 0 n false, .i .i64 0]]
  [some (clO x), some (.rows 3 1 N F)] (Orc.cal [0] (.i .i64 0) [.keep] (Orc.c (Orc.f (Orc.cal [1] (.b va) [.keep] (Orc.f (Orc.f (Orc.cal [1] (.agg [.i .i64 7, .i .i64 (Cl.s
  x), .i .i64 (Cl.b x), .i .i64 (Cl.n x + 1), .i .i64 1, .i .i64 0, .i .i64 0, .i .i64 0, isv n f, .i .i64 0]) [.keep] (Orc.inl (Orc.inl (Orc.cal [] (.agg [.i .i64 7, .i .i64
  (Cl.s x), .i .i64 (Cl.b x), .i .i64 (Cl.n x + 1), .i .i64 1, .i .i64 0, .i .i64 0, .i .i64 0, .lr 0 1 0 n false, .i .i64 0]) [.set (AObj.rows 3 1 n fun i _ => CV.i .i64 (f
  i))] Orc.z)))))))))) (.tup [.l 2 0 1 1 25 true, .i .i64 0]) [.set (cellsO 80 (aoL x n f now)), .keep, .set (moO x 3 n), .set (.rows 3 1 n fun i _ => .i .i64 (f i))] [6, 5] 7
  (fun Lf => Con Try.prog 27 [.p 0 0, .i .i64 now] [some (clO x)] (.i .i64 0) [.keep] ∧ True ∧ decide (1099511627776 ≤ Cl.n x) = false ∧ True ∧ True ∧ True ∧ rg (Cl.n x + 1) ∧
  True ∧ True ∧ True ∧ Con Try.prog 28 [.agg [.i .i64 7, .i .i64 (Cl.s x), .i .i64 (Cl.b x), .i .i64 (Cl.n x + 1), .i .i64 1, .i .i64 0, .i .i64 0, .i .i64 0, .lr 0 1 0 n
  false, .i .i64 0]] [some (AObj.rows 3 1 N F)] (.b va) [.keep] ∧ True ∧ (!va) = false ∧ True ∧ Cl.o x = false ∧ True ∧ True ∧ True ∧ Con Try.prog 29 [.agg [.i .i64 7, .i .i64
  (Cl.s x), .i .i64 (Cl.b x), .i .i64 (Cl.n x + 1), .i .i64 1, .i .i64 0, .i .i64 0, .i .i64 0, .lr 0 1 0 n false, .i .i64 0]] [some (AObj.rows 3 1 N F)] (.agg [.i .i64 7, .i
  .i64 (Cl.s x), .i .i64 (Cl.b x), .i .i64 (Cl.n x + 1), .i .i64 1, .i .i64 0, .i .i64 0, .i .i64 0, isv n f, .i .i64 0]) [.keep] ∧ True ∧ True ∧ True ∧ True ∧ True ∧ True ∧
  True ∧ rg (8 + Cl.s x) ∧ True ∧ Con Try.prog 29 [.agg [.i .i64 7, .i .i64 (Cl.s x), .i .i64 (Cl.b x), .i .i64 (Cl.n x + 1), .i .i64 1, .i .i64 0, .i .i64 0, .i .i64 0, isv n
  f, .i .i64 0]] [] (.agg [.i .i64 7, .i .i64 (Cl.s x), .i .i64 (Cl.b x), .i .i64 (Cl.n x + 1), .i .i64 1, .i .i64 0, .i .i64 0, .i .i64 0, .lr 0 1 0 n false, .i .i64 0]) [.set
  (AObj.rows 3 1 n fun i _ => CV.i .i64 (f i))] ∧ Lf) := by unfold VD VQ; kernel_rfl
theorem opW_vq (x : Cl) (h : x.o = true) : VD Try.prog 12 [.p 0 0] [some (clO x)] (oc 6 (Orc.f (Orc.cal [] (.agg [.i .i64 (Cm.k (Cl.c x)), .i .i64 (Cm.sv (Cl.c x)), .i .i64
  (Cm.bt (Cl.c x)), .i .i64 (Cm.sq (Cl.c x)), .i .i64 (Cm.gn (Cl.c x)), .i .i64 (Cm.lk (Cl.c x)), .i .i64 (Cm.md (Cl.c x)), .i .i64 (Cm.ot (Cl.c x)), .lr 0 1 0 (Cm.mn (Cl.c x))
  false, .i .i64 (Cm.d (Cl.c x))]) [.set (AObj.rows 3 1 (Cm.mn (Cl.c x)) fun i _ => CV.i .i64 (Cm.mf (Cl.c x) i))] Orc.z))) (.tup [.agg [.i .i64 x.c.k, .i .i64 x.c.sv, .i .i64
  x.c.bt, .i .i64 x.c.sq, .i .i64 x.c.gn, .i .i64 x.c.lk, .i .i64 x.c.md, .i .i64 x.c.ot, .lr 1 1 0 x.c.mn false, .i .i64 x.c.d], .b true]) [.keep, .set (.rows 3 1 x.c.mn fun i
  _ => .i .i64 (x.c.mf i))] [2] 3 (fun Lf => True ∧ True ∧ True ∧ (!Cl.o x) = false ∧ True ∧ True ∧ Con Try.prog 29 [.agg [.i .i64 (Cm.k (Cl.c x)), .i .i64 (Cm.sv (Cl.c x)), .i
  .i64 (Cm.bt (Cl.c x)), .i .i64 (Cm.sq (Cl.c x)), .i .i64 (Cm.gn (Cl.c x)), .i .i64 (Cm.lk (Cl.c x)), .i .i64 (Cm.md (Cl.c x)), .i .i64 (Cm.ot (Cl.c x)), isv (Cm.mn (Cl.c x))
  (Cm.mf (Cl.c x)), .i .i64 (Cm.d (Cl.c x))]] [] (.agg [.i .i64 (Cm.k (Cl.c x)), .i .i64 (Cm.sv (Cl.c x)), .i .i64 (Cm.bt (Cl.c x)), .i .i64 (Cm.sq (Cl.c x)), .i .i64 (Cm.gn
  (Cl.c x)), .i .i64 (Cm.lk (Cl.c x)), .i .i64 (Cm.md (Cl.c x)), .i .i64 (Cm.ot (Cl.c x)), .lr 0 1 0 (Cm.mn (Cl.c x)) false, .i .i64 (Cm.d (Cl.c x))]) [.set (AObj.rows 3 1
  (Cm.mn (Cl.c x)) fun i _ => CV.i .i64 (Cm.mf (Cl.c x) i))] ∧ Lf) := by unfold VD VQ; kernel_rfl
theorem cvW_vq (x : Cl) (b : Mb) : VD Try.prog 35 [.agg (vwL b)] [] (Orc.cal [] (.lr 0 1 0 (Mb.mn b) false) [.set (AObj.rows 3 1 (Mb.mn b) fun i _ => CV.i .i64 (Mb.mf b i))]
  (Orc.cal [] (isv (Mb.sn b) (Mb.sf b)) [] (Orc.cal [] (.lr 0 3 0 (Mb.hn b) false) [.set (AObj.rows 73 3 (Mb.hn b) (qF (Mb.hA b) (Mb.hM b) (Mb.hW b)))] (Orc.cal [] (svN (Mb.dn
  b) (Mb.dA b) (Mb.dM b) (Mb.dW b)) [] Orc.z)))) (.agg [.i .i64 (b.x 6), .i .i64 (b.x 7), .i .i64 (b.x 8), .lr 0 1 0 b.mn false, isv b.sn b.sf, .lr 1 3 0 b.hn false, svN b.dn
  b.dA b.dM b.dW]) [.set (.rows 3 1 b.mn fun i _ => .i .i64 (b.mf i)), .set (.rows 73 3 b.hn (qF b.hA b.hM b.hW))] [2, 3] 4 (fun Lf => True ∧ True ∧ Con Try.prog 46 [isv (Mb.mn
  b) (Mb.mf b)] [] (.lr 0 1 0 (Mb.mn b) false) [.set (AObj.rows 3 1 (Mb.mn b) fun i _ => CV.i .i64 (Mb.mf b i))] ∧ True ∧ True ∧ True ∧ True ∧ Con Try.prog 46 [isv (Mb.sn b)
  (Mb.sf b)] [] (isv (Mb.sn b) (Mb.sf b)) [] ∧ True ∧ True ∧ True ∧ Con Try.prog 47 [svN (Mb.hn b) (Mb.hA b) (Mb.hM b) (Mb.hW b)] [] (.lr 0 3 0 (Mb.hn b) false) [.set
  (AObj.rows 73 3 (Mb.hn b) (qF (Mb.hA b) (Mb.hM b) (Mb.hW b)))] ∧ True ∧ True ∧ Con Try.prog 48 [svN (Mb.dn b) (Mb.dA b) (Mb.dM b) (Mb.dW b)] [] (svN (Mb.dn b) (Mb.dA b)
  (Mb.dM b) (Mb.dW b)) [] ∧ True ∧ Lf) := by unfold VD VQ; kernel_rfl
theorem tkW_vq (x : Cl) (m : Mg) (mb : Bool) (ib : Bool) (h : x.o = true) (h2 : mb = true) (h3 : ib = true) : VD Try.prog 11 [.p 0 0, mgV m] [some (clO x)] (oc 6 (Orc.t (Orc.t
  (Orc.t (Orc.cal [0] (.b mb) [.keep] (Orc.t (Orc.f (Orc.t (Orc.t (Orc.t (Orc.t (Orc.t (Orc.t (Orc.cal [] (.b ib) [] (Orc.t (Orc.f (Orc.f (Orc.cal [] (.agg [.i .i64 (Mb.x (Mg.v
  m) 6), .i .i64 (Mb.x (Mg.v m) 7), .i .i64 (Mb.x (Mg.v m) 8), .lr 0 1 0 (Mb.mn (Mg.v m)) false, isv (Mb.sn (Mg.v m)) (Mb.sf (Mg.v m)), .lr 1 3 0 (Mb.hn (Mg.v m)) false, svN
  (Mb.dn (Mg.v m)) (Mb.dA (Mg.v m)) (Mb.dM (Mg.v m)) (Mb.dW (Mg.v m))]) [.set (AObj.rows 3 1 (Mb.mn (Mg.v m)) fun i _ => CV.i .i64 (Mb.mf (Mg.v m) i)), .set (AObj.rows 73 3
  (Mb.hn (Mg.v m)) (qF (Mb.hA (Mg.v m)) (Mb.hM (Mg.v m)) (Mb.hW (Mg.v m))))] Orc.z)))))))))))))))))) (.tup [.agg [.i .i64 (m.v.x 6), .i .i64 (m.v.x 7), .i .i64 (m.v.x 8), .lr 1
  1 0 m.v.mn false, isv m.v.sn m.v.sf, .lr 2 3 0 m.v.hn false, svN m.v.dn m.v.dA m.v.dM m.v.dW], .i .i64 x.f, .b true]) [.set (cellsO 80 (tkL x m)), .set (.rows 3 1 m.v.mn fun
  i _ => .i .i64 (m.v.mf i)), .set (.rows 73 3 m.v.hn (qF m.v.hA m.v.hM m.v.hW))] [3, 4] 5 (fun Lf => True ∧ True ∧ True ∧ (!!Cl.o x) = true ∧ (!!Cl.o x) = true ∧ (!!Cl.o x) =
  true ∧ Con Try.prog 33 [.p 0 0, mgV m] [some (clO x)] (.b mb) [.keep] ∧ (!!Cl.o x) = true ∧ True ∧ (!Cl.o x) = false ∧ (!!mb) = true ∧ (!!mb) = true ∧ (!!mb) = true ∧ True ∧
  (!!mb) = true ∧ (!!mb) = true ∧ (!!mb) = true ∧ Con Try.prog 34 [.agg [.i .i64 (Cm.k (Cl.c x)), .i .i64 (Cm.sv (Cl.c x)), .i .i64 (Cm.bt (Cl.c x)), .i .i64 (Cm.sq (Cl.c x)),
  .i .i64 (Cm.gn (Cl.c x)), .i .i64 (Cm.lk (Cl.c x)), .i .i64 (Cm.md (Cl.c x)), .i .i64 (Cm.ot (Cl.c x)), isv (Cm.mn (Cl.c x)) (Cm.mf (Cl.c x)), .i .i64 (Cm.d (Cl.c x)), .i
  .i64 (Cl.f x), .i .i64 (Cl.l x)], mgV m] [] (.b ib) [] ∧ (!!mb) = true ∧ True ∧ (!mb) = false ∧ (!ib) = false ∧ True ∧ True ∧ True ∧ True ∧ True ∧ True ∧ True ∧ Con Try.prog
  35 [.agg [.i .i64 (Mb.x (Mg.v m) 6), .i .i64 (Mb.x (Mg.v m) 7), .i .i64 (Mb.x (Mg.v m) 8), isv (Mb.mn (Mg.v m)) (Mb.mf (Mg.v m)), isv (Mb.sn (Mg.v m)) (Mb.sf (Mg.v m)), svN
  (Mb.hn (Mg.v m)) (Mb.hA (Mg.v m)) (Mb.hM (Mg.v m)) (Mb.hW (Mg.v m)), svN (Mb.dn (Mg.v m)) (Mb.dA (Mg.v m)) (Mb.dM (Mg.v m)) (Mb.dW (Mg.v m))]] [] (.agg [.i .i64 (Mb.x (Mg.v
  m) 6), .i .i64 (Mb.x (Mg.v m) 7), .i .i64 (Mb.x (Mg.v m) 8), .lr 0 1 0 (Mb.mn (Mg.v m)) false, isv (Mb.sn (Mg.v m)) (Mb.sf (Mg.v m)), .lr 1 3 0 (Mb.hn (Mg.v m)) false, svN
  (Mb.dn (Mg.v m)) (Mb.dA (Mg.v m)) (Mb.dM (Mg.v m)) (Mb.dW (Mg.v m))]) [.set (AObj.rows 3 1 (Mb.mn (Mg.v m)) fun i _ => CV.i .i64 (Mb.mf (Mg.v m) i)), .set (AObj.rows 73 3
  (Mb.hn (Mg.v m)) (qF (Mb.hA (Mg.v m)) (Mb.hM (Mg.v m)) (Mb.hW (Mg.v m))))] ∧ Lf) := by unfold VD VQ; kernel_rfl
theorem q0NR_lq (m : Nat) (G : Nat → Nat → CV) (k : Nat) (h1 : decide (Int.ofNat k < Int.ofNat (addN (m + 1) 1)) = true) : LD Try.prog (loopAt Try.prog 7 0) 174 1 [(7, .lr 0 1
  0 (addN (m + 1) 1) false), (10, .i .i64 19), (54, .i .i64 (Int.ofNat (addN (m + 1) 1))), (55, .i .i64 (Int.ofNat k))] [some (.rows 3 1 (addN (m + 1) 1) G)] (Orc.t Orc.z) .nrm
  [0] [(7, .lr 0 1 0 (addN (m + 1) 1) false), (10, .i .i64 19), (54, .i .i64 (Int.ofNat (addN (m + 1) 1))), (55, .i .i64 (Int.ofNat k + 1))] [some (.rows 3 1 (addN (m + 1) 1)
  (setRow G k 0 [.i .i64 (-5)]))] 1 (fun Lf => decide (Int.ofNat k < Int.ofNat (addN (m + 1) 1)) = true ∧ (0 ≤ Int.ofNat k ∧ Int.ofNat k < ↑(addN (m + 1) 1)) ∧ k < addN (m + 1)
  1 ∧ rg (Int.ofNat k + 1) ∧ Lf) := by unfold LD LQ; kernel_rfl
theorem q0NE_lq (m : Nat) (G : Nat → Nat → CV) (k : Nat) (h1 : decide (Int.ofNat k < Int.ofNat (addN (m + 1) 1)) = false) : LD Try.prog (loopAt Try.prog 7 0) 174 1 [(7, .lr 0 1
  0 (addN (m + 1) 1) false), (10, .i .i64 19), (54, .i .i64 (Int.ofNat (addN (m + 1) 1))), (55, .i .i64 (Int.ofNat k))] [some (.rows 3 1 (addN (m + 1) 1) G)] (Orc.f Orc.z)
  (.exit 0) [0] [(10, .i .i64 19)] [some (.rows 3 1 (addN (m + 1) 1) G)] 1 (fun Lf => decide (Int.ofNat k < Int.ofNat (addN (m + 1) 1)) = false ∧ Lf)
  := by unfold LD LQ; kernel_rfl
theorem q0R_lq (x0 : Cl) (x1 : Cl) (f : Nat → Int) (m : Nat) (b : Mb) (G : Nat → Nat → CV) (k : Nat) (h1 : decide (Int.ofNat k < Int.ofNat (addN (m + 1) 1)) = true) : LD
  Try.prog (loopAt Try.prog 7 0) 174 1 [(0, isv (m + 1) f), (3, .p 0 0), (5, .p 1 0), (7, .lr 2 1 0 (addN (m + 1) 1) false), (9, .l 3 0 1 1 25 true), (10, .i .i64 0), (54, .i
  .i64 (Int.ofNat (addN (m + 1) 1))), (55, .i .i64 (Int.ofNat k))] [some (vwO b), some (clO x1), some (.rows 3 1 (addN (m + 1) 1) G), some (moO x0 4 (m + 1)), some (.rows 3 1
  (m + 1) fun i _ => .i .i64 (f i))] (Orc.t Orc.z) .nrm [0, 1, 2, 3, 4] [(0, isv (m + 1) f), (3, .p 0 0), (5, .p 1 0), (7, .lr 2 1 0 (addN (m + 1) 1) false), (9, .l 3 0 1 1 25
  true), (10, .i .i64 0), (54, .i .i64 (Int.ofNat (addN (m + 1) 1))), (55, .i .i64 (Int.ofNat k + 1))] [some (vwO b), some (clO x1), some (.rows 3 1 (addN (m + 1) 1) (setRow G
  k 0 [.i .i64 (-5)])), some (moO x0 4 (m + 1)), some (.rows 3 1 (m + 1) fun i _ => .i .i64 (f i))] 5 (fun Lf => decide (Int.ofNat k < Int.ofNat (addN (m + 1) 1)) = true ∧ (0 ≤
  Int.ofNat k ∧ Int.ofNat k < ↑(addN (m + 1) 1)) ∧ k < addN (m + 1) 1 ∧ rg (Int.ofNat k + 1) ∧ Lf) := by unfold LD LQ; kernel_rfl
theorem q0E_lq (x0 : Cl) (x1 : Cl) (f : Nat → Int) (m : Nat) (b : Mb) (G : Nat → Nat → CV) (k : Nat) (h1 : decide (Int.ofNat k < Int.ofNat (addN (m + 1) 1)) = false) : LD
  Try.prog (loopAt Try.prog 7 0) 174 1 [(0, isv (m + 1) f), (3, .p 0 0), (5, .p 1 0), (7, .lr 2 1 0 (addN (m + 1) 1) false), (9, .l 3 0 1 1 25 true), (10, .i .i64 0), (54, .i
  .i64 (Int.ofNat (addN (m + 1) 1))), (55, .i .i64 (Int.ofNat k))] [some (vwO b), some (clO x1), some (.rows 3 1 (addN (m + 1) 1) G), some (moO x0 4 (m + 1)), some (.rows 3 1
  (m + 1) fun i _ => .i .i64 (f i))] (Orc.f Orc.z) (.exit 0) [0, 1, 2, 3, 4] [(0, isv (m + 1) f), (3, .p 0 0), (5, .p 1 0), (9, .l 3 0 1 1 25 true), (10, .i .i64 0)] [some (vwO
  b), some (clO x1), some (.rows 3 1 (addN (m + 1) 1) G), some (moO x0 4 (m + 1)), some (.rows 3 1 (m + 1) fun i _ => .i .i64 (f i))] 5 (fun Lf => decide (Int.ofNat k <
  Int.ofNat (addN (m + 1) 1)) = false ∧ Lf) := by unfold LD LQ; kernel_rfl
theorem q1R_lq (x0 : Cl) (x1 : Cl) (f : Nat → Int) (m : Nat) (b : Mb) (G : Nat → Nat → CV) (k : Nat) (h1 : decide (Int.ofNat k < Int.ofNat (m + 1)) = true) : LD Try.prog
  (loopAt Try.prog 7 1) 174 1 [(0, isv (m + 1) f), (3, .p 0 0), (5, .p 1 0), (9, .l 2 0 1 1 25 true), (84, .i .i64 (Int.ofNat (m + 1))), (85, .i .i64 (Int.ofNat k))] [some (vwO
  b), some (clO x1), some (moO x0 3 (m + 1)), some (.rows 3 1 (m + 1) G)] (Orc.t (Orc.c Orc.z)) .nrm [0, 1, 2, 3] [(0, isv (m + 1) f), (3, .p 0 0), (5, .p 1 0), (9, .l 2 0 1 1
  25 true), (84, .i .i64 (Int.ofNat (m + 1))), (85, .i .i64 (Int.ofNat k + 1))] [some (vwO b), some (clO x1), some (moO x0 3 (m + 1)), some (.rows 3 1 (m + 1) (setRow G k 0 [.i
  .i64 (-6)]))] 4 (fun Lf => decide (Int.ofNat k < Int.ofNat (m + 1)) = true ∧ True ∧ True ∧ (0 ≤ Int.ofNat k ∧ Int.ofNat k < ↑(m + 1)) ∧ k < m + 1 ∧ rg (Int.ofNat k + 1) ∧ Lf)
  := by unfold LD LQ; kernel_rfl
theorem q1E_lq (x0 : Cl) (x1 : Cl) (f : Nat → Int) (m : Nat) (b : Mb) (G : Nat → Nat → CV) (k : Nat) (h1 : decide (Int.ofNat k < Int.ofNat (m + 1)) = false) : LD Try.prog
  (loopAt Try.prog 7 1) 174 1 [(0, isv (m + 1) f), (3, .p 0 0), (5, .p 1 0), (9, .l 2 0 1 1 25 true), (84, .i .i64 (Int.ofNat (m + 1))), (85, .i .i64 (Int.ofNat k))] [some (vwO
  b), some (clO x1), some (moO x0 3 (m + 1)), some (.rows 3 1 (m + 1) G)] (Orc.f Orc.z) (.exit 2) [0, 1, 2, 3] [(0, isv (m + 1) f), (3, .p 0 0), (5, .p 1 0)] [some (vwO b),
  some (clO x1), some (moO x0 3 (m + 1)), some (.rows 3 1 (m + 1) G)] 4 (fun Lf => decide (Int.ofNat k < Int.ofNat (m + 1)) = false ∧ Lf) := by unfold LD LQ; kernel_rfl
theorem q2R_lq (x1 : Cl) (f : Nat → Int) (m : Nat) (b : Mb) (G : Nat → Nat → CV) (k : Nat) (h1 : decide (Int.ofNat k < Int.ofNat (m + 1)) = true) : LD Try.prog (loopAt Try.prog
  7 2) 174 1 [(0, isv (m + 1) f), (3, .p 0 0), (5, .p 1 0), (13, .p 2 0), (103, .i .i64 (Int.ofNat (m + 1))), (104, .i .i64 (Int.ofNat k))] [some (vwO b), some (clO x1), some
  (.cells 33 10 [.i .i64 0, .i .i64 0, .i .i64 0, .i .i64 0, .i .i64 0, .i .i64 0, .i .i64 0, .i .i64 0, .l0, .i .i64 0] (setAll .e 0 [.i .i64 x1.c.k, .i .i64 x1.c.sv, .i .i64
  x1.c.bt, .i .i64 x1.c.sq, .i .i64 x1.c.gn, .i .i64 x1.c.lk, .i .i64 x1.c.md, .i .i64 x1.c.ot, .lr 3 1 0 (m + 1) false, .i .i64 x1.c.d])), some (.rows 3 1 (m + 1) G)] (Orc.t
  Orc.z) .nrm [0, 1, 2, 3] [(0, isv (m + 1) f), (3, .p 0 0), (5, .p 1 0), (13, .p 2 0), (103, .i .i64 (Int.ofNat (m + 1))), (104, .i .i64 (Int.ofNat k + 1))] [some (vwO b),
  some (clO x1), some (.cells 33 10 [.i .i64 0, .i .i64 0, .i .i64 0, .i .i64 0, .i .i64 0, .i .i64 0, .i .i64 0, .i .i64 0, .l0, .i .i64 0] (setAll .e 0 [.i .i64 x1.c.k, .i
  .i64 x1.c.sv, .i .i64 x1.c.bt, .i .i64 x1.c.sq, .i .i64 x1.c.gn, .i .i64 x1.c.lk, .i .i64 x1.c.md, .i .i64 x1.c.ot, .lr 3 1 0 (m + 1) false, .i .i64 x1.c.d])), some (.rows 3
  1 (m + 1) (setRow G k 0 [.i .i64 (-7)]))] 4 (fun Lf => decide (Int.ofNat k < Int.ofNat (m + 1)) = true ∧ True ∧ (0 ≤ Int.ofNat k ∧ Int.ofNat k < ↑(m + 1)) ∧ k < m + 1 ∧ rg
  (Int.ofNat k + 1) ∧ Lf) := by unfold LD LQ; kernel_rfl
theorem q2E_lq (x1 : Cl) (f : Nat → Int) (m : Nat) (b : Mb) (G : Nat → Nat → CV) (k : Nat) (h1 : decide (Int.ofNat k < Int.ofNat (m + 1)) = false) : LD Try.prog (loopAt
  Try.prog 7 2) 174 1 [(0, isv (m + 1) f), (3, .p 0 0), (5, .p 1 0), (13, .p 2 0), (103, .i .i64 (Int.ofNat (m + 1))), (104, .i .i64 (Int.ofNat k))] [some (vwO b), some (clO
  x1), some (.cells 33 10 [.i .i64 0, .i .i64 0, .i .i64 0, .i .i64 0, .i .i64 0, .i .i64 0, .i .i64 0, .i .i64 0, .l0, .i .i64 0] (setAll .e 0 [.i .i64 x1.c.k, .i .i64
  x1.c.sv, .i .i64 x1.c.bt, .i .i64 x1.c.sq, .i .i64 x1.c.gn, .i .i64 x1.c.lk, .i .i64 x1.c.md, .i .i64 x1.c.ot, .lr 3 1 0 (m + 1) false, .i .i64 x1.c.d])), some (.rows 3 1 (m
  + 1) G)] (Orc.f Orc.z) (.exit 4) [0, 1, 2, 3] [(0, isv (m + 1) f), (3, .p 0 0), (5, .p 1 0)] [some (vwO b), some (clO x1), some (.cells 33 10 [.i .i64 0, .i .i64 0, .i .i64
  0, .i .i64 0, .i .i64 0, .i .i64 0, .i .i64 0, .i .i64 0, .l0, .i .i64 0] (setAll .e 0 [.i .i64 x1.c.k, .i .i64 x1.c.sv, .i .i64 x1.c.bt, .i .i64 x1.c.sq, .i .i64 x1.c.gn, .i
  .i64 x1.c.lk, .i .i64 x1.c.md, .i .i64 x1.c.ot, .lr 3 1 0 (m + 1) false, .i .i64 x1.c.d])), some (.rows 3 1 (m + 1) G)] 4 (fun Lf => decide (Int.ofNat k < Int.ofNat (m + 1))
  = false ∧ Lf) := by unfold LD LQ; kernel_rfl
theorem q3R_lq (m2 : Mg) (f : Nat → Int) (m : Nat) (b : Mb) (G : Nat → Nat → CV) (k : Nat) (h1 : decide (Int.ofNat k < Int.ofNat b.hn) = true) : LD Try.prog (loopAt Try.prog 7
  3) 174 1 [(0, isv (m + 1) f), (16, mg1 m2), (18, .p 0 0), (19, .p 1 0), (20, .p 2 0), (22, .b true), (131, .i .i64 (Int.ofNat b.hn)), (132, .i .i64 (Int.ofNat k))] [some
  (.cells 47 25 [.i .i64 0, .i .i64 0, .i .i64 0, .i .i64 0, .i .i64 0, .i .i64 0, .s [], .s [], .i .i64 0, .i .i64 0, .i .i64 0, .i .i64 0, .i .i64 0, .i .i64 0, .i .i64 0, .i
  .i64 0, .l0, .i .i64 0, .i .i64 0, .i .i64 0, .i .i64 0, .l0, .l0, .l0, .l0] (setAll .e 0 [.i .i64 9, .i .i64 0, .i .i64 8, .i .i64 0, .i .i64 0, .i .i64 0, .s [], .s [], .i
  .i64 1, .i .i64 0, .i .i64 1, .i .i64 1, .i .i64 0, .i .i64 0, .i .i64 0, .i .i64 0, .l0, .i .i64 0, .i .i64 (b.x 6), .i .i64 (b.x 7), .i .i64 (b.x 8), isv b.mn b.mf, isv
  b.sn b.sf, svN b.hn b.hA b.hM b.hW, svN b.dn b.dA b.dM b.dW])), some (.cells 47 25 [.i .i64 0, .i .i64 0, .i .i64 0, .i .i64 0, .i .i64 0, .i .i64 0, .s [], .s [], .i .i64 0,
  .i .i64 0, .i .i64 0, .i .i64 0, .i .i64 0, .i .i64 0, .i .i64 0, .i .i64 0, .l0, .i .i64 0, .i .i64 0, .i .i64 0, .i .i64 0, .l0, .l0, .l0, .l0] (setAll .e 0 [.i .i64 9, .i
  .i64 0, .i .i64 8, .i .i64 0, .i .i64 0, .i .i64 0, .s [], .s [], .i .i64 1, .i .i64 0, .i .i64 1, .i .i64 1, .i .i64 0, .i .i64 0, .i .i64 0, .i .i64 0, isv 0 (fun _ => 0),
  .i .i64 0, .i .i64 (b.x 6), .i .i64 (b.x 7), .i .i64 (b.x 8), isv b.mn b.mf, isv b.sn b.sf, svN b.hn b.hA b.hM b.hW, svN b.dn b.dA b.dM b.dW])), some (.cells 40 7 [.i .i64 0,
  .i .i64 0, .i .i64 0, .l0, .l0, .l0, .l0] (setAll .e 0 [.i .i64 (b.x 6), .i .i64 (b.x 7), .i .i64 (b.x 8), .lr 3 1 0 b.mn false, isv b.sn b.sf, .lr 4 3 0 b.hn false, svN b.dn
  b.dA b.dM b.dW])), some (.rows 3 1 b.mn fun i _ => .i .i64 (b.mf i)), some (.rows 73 3 b.hn G)] (Orc.t Orc.z) .nrm [0, 1, 2, 3, 4] [(0, isv (m + 1) f), (16, mg1 m2), (18, .p
  0 0), (19, .p 1 0), (20, .p 2 0), (22, .b true), (131, .i .i64 (Int.ofNat b.hn)), (132, .i .i64 (Int.ofNat k + 1))] [some (.cells 47 25 [.i .i64 0, .i .i64 0, .i .i64 0, .i
  .i64 0, .i .i64 0, .i .i64 0, .s [], .s [], .i .i64 0, .i .i64 0, .i .i64 0, .i .i64 0, .i .i64 0, .i .i64 0, .i .i64 0, .i .i64 0, .l0, .i .i64 0, .i .i64 0, .i .i64 0, .i
  .i64 0, .l0, .l0, .l0, .l0] (setAll .e 0 [.i .i64 9, .i .i64 0, .i .i64 8, .i .i64 0, .i .i64 0, .i .i64 0, .s [], .s [], .i .i64 1, .i .i64 0, .i .i64 1, .i .i64 1, .i .i64
  0, .i .i64 0, .i .i64 0, .i .i64 0, .l0, .i .i64 0, .i .i64 (b.x 6), .i .i64 (b.x 7), .i .i64 (b.x 8), isv b.mn b.mf, isv b.sn b.sf, svN b.hn b.hA b.hM b.hW, svN b.dn b.dA
  b.dM b.dW])), some (.cells 47 25 [.i .i64 0, .i .i64 0, .i .i64 0, .i .i64 0, .i .i64 0, .i .i64 0, .s [], .s [], .i .i64 0, .i .i64 0, .i .i64 0, .i .i64 0, .i .i64 0, .i
  .i64 0, .i .i64 0, .i .i64 0, .l0, .i .i64 0, .i .i64 0, .i .i64 0, .i .i64 0, .l0, .l0, .l0, .l0] (setAll .e 0 [.i .i64 9, .i .i64 0, .i .i64 8, .i .i64 0, .i .i64 0, .i
  .i64 0, .s [], .s [], .i .i64 1, .i .i64 0, .i .i64 1, .i .i64 1, .i .i64 0, .i .i64 0, .i .i64 0, .i .i64 0, isv 0 (fun _ => 0), .i .i64 0, .i .i64 (b.x 6), .i .i64 (b.x 7),
  .i .i64 (b.x 8), isv b.mn b.mf, isv b.sn b.sf, svN b.hn b.hA b.hM b.hW, svN b.dn b.dA b.dM b.dW])), some (.cells 40 7 [.i .i64 0, .i .i64 0, .i .i64 0, .l0, .l0, .l0, .l0]
  (setAll .e 0 [.i .i64 (b.x 6), .i .i64 (b.x 7), .i .i64 (b.x 8), .lr 3 1 0 b.mn false, isv b.sn b.sf, .lr 4 3 0 b.hn false, svN b.dn b.dA b.dM b.dW])), some (.rows 3 1 b.mn
  fun i _ => .i .i64 (b.mf i)), some (.rows 73 3 b.hn (setRow G k 0 [.i .i64 (-8)]))] 5 (fun Lf => decide (Int.ofNat k < Int.ofNat (Mb.hn b)) = true ∧ True ∧ (0 ≤ Int.ofNat k ∧
  Int.ofNat k < ↑(Mb.hn b)) ∧ True ∧ k < Mb.hn b ∧ rg (Int.ofNat k + 1) ∧ Lf) := by unfold LD LQ; kernel_rfl
theorem q3E_lq (m2 : Mg) (f : Nat → Int) (m : Nat) (b : Mb) (G : Nat → Nat → CV) (k : Nat) (h1 : decide (Int.ofNat k < Int.ofNat b.hn) = false) : LD Try.prog (loopAt Try.prog 7
  3) 174 1 [(0, isv (m + 1) f), (16, mg1 m2), (18, .p 0 0), (19, .p 1 0), (20, .p 2 0), (22, .b true), (131, .i .i64 (Int.ofNat b.hn)), (132, .i .i64 (Int.ofNat k))] [some
  (.cells 47 25 [.i .i64 0, .i .i64 0, .i .i64 0, .i .i64 0, .i .i64 0, .i .i64 0, .s [], .s [], .i .i64 0, .i .i64 0, .i .i64 0, .i .i64 0, .i .i64 0, .i .i64 0, .i .i64 0, .i
  .i64 0, .l0, .i .i64 0, .i .i64 0, .i .i64 0, .i .i64 0, .l0, .l0, .l0, .l0] (setAll .e 0 [.i .i64 9, .i .i64 0, .i .i64 8, .i .i64 0, .i .i64 0, .i .i64 0, .s [], .s [], .i
  .i64 1, .i .i64 0, .i .i64 1, .i .i64 1, .i .i64 0, .i .i64 0, .i .i64 0, .i .i64 0, .l0, .i .i64 0, .i .i64 (b.x 6), .i .i64 (b.x 7), .i .i64 (b.x 8), isv b.mn b.mf, isv
  b.sn b.sf, svN b.hn b.hA b.hM b.hW, svN b.dn b.dA b.dM b.dW])), some (.cells 47 25 [.i .i64 0, .i .i64 0, .i .i64 0, .i .i64 0, .i .i64 0, .i .i64 0, .s [], .s [], .i .i64 0,
  .i .i64 0, .i .i64 0, .i .i64 0, .i .i64 0, .i .i64 0, .i .i64 0, .i .i64 0, .l0, .i .i64 0, .i .i64 0, .i .i64 0, .i .i64 0, .l0, .l0, .l0, .l0] (setAll .e 0 [.i .i64 9, .i
  .i64 0, .i .i64 8, .i .i64 0, .i .i64 0, .i .i64 0, .s [], .s [], .i .i64 1, .i .i64 0, .i .i64 1, .i .i64 1, .i .i64 0, .i .i64 0, .i .i64 0, .i .i64 0, isv 0 (fun _ => 0),
  .i .i64 0, .i .i64 (b.x 6), .i .i64 (b.x 7), .i .i64 (b.x 8), isv b.mn b.mf, isv b.sn b.sf, svN b.hn b.hA b.hM b.hW, svN b.dn b.dA b.dM b.dW])), some (.cells 40 7 [.i .i64 0,
  .i .i64 0, .i .i64 0, .l0, .l0, .l0, .l0] (setAll .e 0 [.i .i64 (b.x 6), .i .i64 (b.x 7), .i .i64 (b.x 8), .lr 3 1 0 b.mn false, isv b.sn b.sf, .lr 4 3 0 b.hn false, svN b.dn
  b.dA b.dM b.dW])), some (.rows 3 1 b.mn fun i _ => .i .i64 (b.mf i)), some (.rows 73 3 b.hn G)] (Orc.f Orc.z) (.exit 6) [0, 1, 2, 3, 4] [(0, isv (m + 1) f), (16, mg1 m2),
  (18, .p 0 0), (19, .p 1 0), (20, .p 2 0), (22, .b true)] [some (.cells 47 25 [.i .i64 0, .i .i64 0, .i .i64 0, .i .i64 0, .i .i64 0, .i .i64 0, .s [], .s [], .i .i64 0, .i
  .i64 0, .i .i64 0, .i .i64 0, .i .i64 0, .i .i64 0, .i .i64 0, .i .i64 0, .l0, .i .i64 0, .i .i64 0, .i .i64 0, .i .i64 0, .l0, .l0, .l0, .l0] (setAll .e 0 [.i .i64 9, .i
  .i64 0, .i .i64 8, .i .i64 0, .i .i64 0, .i .i64 0, .s [], .s [], .i .i64 1, .i .i64 0, .i .i64 1, .i .i64 1, .i .i64 0, .i .i64 0, .i .i64 0, .i .i64 0, .l0, .i .i64 0, .i
  .i64 (b.x 6), .i .i64 (b.x 7), .i .i64 (b.x 8), isv b.mn b.mf, isv b.sn b.sf, svN b.hn b.hA b.hM b.hW, svN b.dn b.dA b.dM b.dW])), some (.cells 47 25 [.i .i64 0, .i .i64 0,
  .i .i64 0, .i .i64 0, .i .i64 0, .i .i64 0, .s [], .s [], .i .i64 0, .i .i64 0, .i .i64 0, .i .i64 0, .i .i64 0, .i .i64 0, .i .i64 0, .i .i64 0, .l0, .i .i64 0, .i .i64 0,
  .i .i64 0, .i .i64 0, .l0, .l0, .l0, .l0] (setAll .e 0 [.i .i64 9, .i .i64 0, .i .i64 8, .i .i64 0, .i .i64 0, .i .i64 0, .s [], .s [], .i .i64 1, .i .i64 0, .i .i64 1, .i
  .i64 1, .i .i64 0, .i .i64 0, .i .i64 0, .i .i64 0, isv 0 (fun _ => 0), .i .i64 0, .i .i64 (b.x 6), .i .i64 (b.x 7), .i .i64 (b.x 8), isv b.mn b.mf, isv b.sn b.sf, svN b.hn
  b.hA b.hM b.hW, svN b.dn b.dA b.dM b.dW])), some (.cells 40 7 [.i .i64 0, .i .i64 0, .i .i64 0, .l0, .l0, .l0, .l0] (setAll .e 0 [.i .i64 (b.x 6), .i .i64 (b.x 7), .i .i64
  (b.x 8), .lr 3 1 0 b.mn false, isv b.sn b.sf, .lr 4 3 0 b.hn false, svN b.dn b.dA b.dM b.dW])), some (.rows 3 1 b.mn fun i _ => .i .i64 (b.mf i)), some (.rows 73 3 b.hn G)] 5
  (fun Lf => decide (Int.ofNat k < Int.ofNat (Mb.hn b)) = false ∧ Lf) := by unfold LD LQ; kernel_rfl
theorem q4R_lq (m2 : Mg) (f : Nat → Int) (m : Nat) (b : Mb) (G : Nat → Nat → CV) (k : Nat) (h1 : decide (Int.ofNat k < Int.ofNat b.mn) = true) : LD Try.prog (loopAt Try.prog 7
  4) 174 1 [(0, isv (m + 1) f), (16, mg1 m2), (18, .p 0 0), (19, .p 1 0), (20, .p 2 0), (22, .b true), (144, .i .i64 (Int.ofNat b.mn)), (145, .i .i64 (Int.ofNat k))] [some
  (.cells 47 25 [.i .i64 0, .i .i64 0, .i .i64 0, .i .i64 0, .i .i64 0, .i .i64 0, .s [], .s [], .i .i64 0, .i .i64 0, .i .i64 0, .i .i64 0, .i .i64 0, .i .i64 0, .i .i64 0, .i
  .i64 0, .l0, .i .i64 0, .i .i64 0, .i .i64 0, .i .i64 0, .l0, .l0, .l0, .l0] (setAll .e 0 [.i .i64 9, .i .i64 0, .i .i64 8, .i .i64 0, .i .i64 0, .i .i64 0, .s [], .s [], .i
  .i64 1, .i .i64 0, .i .i64 1, .i .i64 1, .i .i64 0, .i .i64 0, .i .i64 0, .i .i64 0, .l0, .i .i64 0, .i .i64 (b.x 6), .i .i64 (b.x 7), .i .i64 (b.x 8), isv b.mn b.mf, isv
  b.sn b.sf, svN b.hn b.hA b.hM b.hW, svN b.dn b.dA b.dM b.dW])), some (.cells 47 25 [.i .i64 0, .i .i64 0, .i .i64 0, .i .i64 0, .i .i64 0, .i .i64 0, .s [], .s [], .i .i64 0,
  .i .i64 0, .i .i64 0, .i .i64 0, .i .i64 0, .i .i64 0, .i .i64 0, .i .i64 0, .l0, .i .i64 0, .i .i64 0, .i .i64 0, .i .i64 0, .l0, .l0, .l0, .l0] (setAll .e 0 [.i .i64 9, .i
  .i64 0, .i .i64 8, .i .i64 0, .i .i64 0, .i .i64 0, .s [], .s [], .i .i64 1, .i .i64 0, .i .i64 1, .i .i64 1, .i .i64 0, .i .i64 0, .i .i64 0, .i .i64 0, isv 0 (fun _ => 0),
  .i .i64 0, .i .i64 (b.x 6), .i .i64 (b.x 7), .i .i64 (b.x 8), isv b.mn b.mf, isv b.sn b.sf, svN b.hn b.hA b.hM b.hW, svN b.dn b.dA b.dM b.dW])), some (.cells 40 7 [.i .i64 0,
  .i .i64 0, .i .i64 0, .l0, .l0, .l0, .l0] (setAll .e 0 [.i .i64 (b.x 6), .i .i64 (b.x 7), .i .i64 (b.x 8), .lr 3 1 0 b.mn false, isv b.sn b.sf, .lr 4 3 0 b.hn false, svN b.dn
  b.dA b.dM b.dW])), some (.rows 3 1 b.mn G), some (.rows 73 3 b.hn (qF (fun _ => -8) b.hM b.hW))] (Orc.t Orc.z) .nrm [0, 1, 2, 3, 4] [(0, isv (m + 1) f), (16, mg1 m2), (18, .p
  0 0), (19, .p 1 0), (20, .p 2 0), (22, .b true), (144, .i .i64 (Int.ofNat b.mn)), (145, .i .i64 (Int.ofNat k + 1))] [some (.cells 47 25 [.i .i64 0, .i .i64 0, .i .i64 0, .i
  .i64 0, .i .i64 0, .i .i64 0, .s [], .s [], .i .i64 0, .i .i64 0, .i .i64 0, .i .i64 0, .i .i64 0, .i .i64 0, .i .i64 0, .i .i64 0, .l0, .i .i64 0, .i .i64 0, .i .i64 0, .i
  .i64 0, .l0, .l0, .l0, .l0] (setAll .e 0 [.i .i64 9, .i .i64 0, .i .i64 8, .i .i64 0, .i .i64 0, .i .i64 0, .s [], .s [], .i .i64 1, .i .i64 0, .i .i64 1, .i .i64 1, .i .i64
  0, .i .i64 0, .i .i64 0, .i .i64 0, .l0, .i .i64 0, .i .i64 (b.x 6), .i .i64 (b.x 7), .i .i64 (b.x 8), isv b.mn b.mf, isv b.sn b.sf, svN b.hn b.hA b.hM b.hW, svN b.dn b.dA
  b.dM b.dW])), some (.cells 47 25 [.i .i64 0, .i .i64 0, .i .i64 0, .i .i64 0, .i .i64 0, .i .i64 0, .s [], .s [], .i .i64 0, .i .i64 0, .i .i64 0, .i .i64 0, .i .i64 0, .i
  .i64 0, .i .i64 0, .i .i64 0, .l0, .i .i64 0, .i .i64 0, .i .i64 0, .i .i64 0, .l0, .l0, .l0, .l0] (setAll .e 0 [.i .i64 9, .i .i64 0, .i .i64 8, .i .i64 0, .i .i64 0, .i
  .i64 0, .s [], .s [], .i .i64 1, .i .i64 0, .i .i64 1, .i .i64 1, .i .i64 0, .i .i64 0, .i .i64 0, .i .i64 0, isv 0 (fun _ => 0), .i .i64 0, .i .i64 (b.x 6), .i .i64 (b.x 7),
  .i .i64 (b.x 8), isv b.mn b.mf, isv b.sn b.sf, svN b.hn b.hA b.hM b.hW, svN b.dn b.dA b.dM b.dW])), some (.cells 40 7 [.i .i64 0, .i .i64 0, .i .i64 0, .l0, .l0, .l0, .l0]
  (setAll .e 0 [.i .i64 (b.x 6), .i .i64 (b.x 7), .i .i64 (b.x 8), .lr 3 1 0 b.mn false, isv b.sn b.sf, .lr 4 3 0 b.hn false, svN b.dn b.dA b.dM b.dW])), some (.rows 3 1 b.mn
  (setRow G k 0 [.i .i64 (-9)])), some (.rows 73 3 b.hn (qF (fun _ => -8) b.hM b.hW))] 5 (fun Lf => decide (Int.ofNat k < Int.ofNat (Mb.mn b)) = true ∧ True ∧ True ∧ (0 ≤
  Int.ofNat k ∧ Int.ofNat k < ↑(Mb.mn b)) ∧ k < Mb.mn b ∧ rg (Int.ofNat k + 1) ∧ Lf) := by unfold LD LQ; kernel_rfl
theorem q4E_lq (m2 : Mg) (f : Nat → Int) (m : Nat) (b : Mb) (G : Nat → Nat → CV) (k : Nat) (h1 : decide (Int.ofNat k < Int.ofNat b.mn) = false) : LD Try.prog (loopAt Try.prog 7
  4) 174 1 [(0, isv (m + 1) f), (16, mg1 m2), (18, .p 0 0), (19, .p 1 0), (20, .p 2 0), (22, .b true), (144, .i .i64 (Int.ofNat b.mn)), (145, .i .i64 (Int.ofNat k))] [some
  (.cells 47 25 [.i .i64 0, .i .i64 0, .i .i64 0, .i .i64 0, .i .i64 0, .i .i64 0, .s [], .s [], .i .i64 0, .i .i64 0, .i .i64 0, .i .i64 0, .i .i64 0, .i .i64 0, .i .i64 0, .i
  .i64 0, .l0, .i .i64 0, .i .i64 0, .i .i64 0, .i .i64 0, .l0, .l0, .l0, .l0] (setAll .e 0 [.i .i64 9, .i .i64 0, .i .i64 8, .i .i64 0, .i .i64 0, .i .i64 0, .s [], .s [], .i
  .i64 1, .i .i64 0, .i .i64 1, .i .i64 1, .i .i64 0, .i .i64 0, .i .i64 0, .i .i64 0, .l0, .i .i64 0, .i .i64 (b.x 6), .i .i64 (b.x 7), .i .i64 (b.x 8), isv b.mn b.mf, isv
  b.sn b.sf, svN b.hn b.hA b.hM b.hW, svN b.dn b.dA b.dM b.dW])), some (.cells 47 25 [.i .i64 0, .i .i64 0, .i .i64 0, .i .i64 0, .i .i64 0, .i .i64 0, .s [], .s [], .i .i64 0,
  .i .i64 0, .i .i64 0, .i .i64 0, .i .i64 0, .i .i64 0, .i .i64 0, .i .i64 0, .l0, .i .i64 0, .i .i64 0, .i .i64 0, .i .i64 0, .l0, .l0, .l0, .l0] (setAll .e 0 [.i .i64 9, .i
  .i64 0, .i .i64 8, .i .i64 0, .i .i64 0, .i .i64 0, .s [], .s [], .i .i64 1, .i .i64 0, .i .i64 1, .i .i64 1, .i .i64 0, .i .i64 0, .i .i64 0, .i .i64 0, isv 0 (fun _ => 0),
  .i .i64 0, .i .i64 (b.x 6), .i .i64 (b.x 7), .i .i64 (b.x 8), isv b.mn b.mf, isv b.sn b.sf, svN b.hn b.hA b.hM b.hW, svN b.dn b.dA b.dM b.dW])), some (.cells 40 7 [.i .i64 0,
  .i .i64 0, .i .i64 0, .l0, .l0, .l0, .l0] (setAll .e 0 [.i .i64 (b.x 6), .i .i64 (b.x 7), .i .i64 (b.x 8), .lr 3 1 0 b.mn false, isv b.sn b.sf, .lr 4 3 0 b.hn false, svN b.dn
  b.dA b.dM b.dW])), some (.rows 3 1 b.mn G), some (.rows 73 3 b.hn (qF (fun _ => -8) b.hM b.hW))] (Orc.f Orc.z) (.exit 8) [0, 1, 2, 3, 4] [(0, isv (m + 1) f), (16, mg1 m2),
  (18, .p 0 0), (19, .p 1 0), (22, .b true)] [some (.cells 47 25 [.i .i64 0, .i .i64 0, .i .i64 0, .i .i64 0, .i .i64 0, .i .i64 0, .s [], .s [], .i .i64 0, .i .i64 0, .i .i64
  0, .i .i64 0, .i .i64 0, .i .i64 0, .i .i64 0, .i .i64 0, .l0, .i .i64 0, .i .i64 0, .i .i64 0, .i .i64 0, .l0, .l0, .l0, .l0] (setAll .e 0 [.i .i64 9, .i .i64 0, .i .i64 8,
  .i .i64 0, .i .i64 0, .i .i64 0, .s [], .s [], .i .i64 1, .i .i64 0, .i .i64 1, .i .i64 1, .i .i64 0, .i .i64 0, .i .i64 0, .i .i64 0, .l0, .i .i64 0, .i .i64 (b.x 6), .i
  .i64 (b.x 7), .i .i64 (b.x 8), isv b.mn b.mf, isv b.sn b.sf, svN b.hn b.hA b.hM b.hW, svN b.dn b.dA b.dM b.dW])), some (.cells 47 25 [.i .i64 0, .i .i64 0, .i .i64 0, .i .i64
  0, .i .i64 0, .i .i64 0, .s [], .s [], .i .i64 0, .i .i64 0, .i .i64 0, .i .i64 0, .i .i64 0, .i .i64 0, .i .i64 0, .i .i64 0, .l0, .i .i64 0, .i .i64 0, .i .i64 0, .i .i64
  0, .l0, .l0, .l0, .l0] (setAll .e 0 [.i .i64 9, .i .i64 0, .i .i64 8, .i .i64 0, .i .i64 0, .i .i64 0, .s [], .s [], .i .i64 1, .i .i64 0, .i .i64 1, .i .i64 1, .i .i64 0, .i
  .i64 0, .i .i64 0, .i .i64 0, isv 0 (fun _ => 0), .i .i64 0, .i .i64 (b.x 6), .i .i64 (b.x 7), .i .i64 (b.x 8), isv b.mn b.mf, isv b.sn b.sf, svN b.hn b.hA b.hM b.hW, svN
  b.dn b.dA b.dM b.dW])), some (.cells 40 7 [.i .i64 0, .i .i64 0, .i .i64 0, .l0, .l0, .l0, .l0] (setAll .e 0 [.i .i64 (b.x 6), .i .i64 (b.x 7), .i .i64 (b.x 8), .lr 3 1 0
  b.mn false, isv b.sn b.sf, .lr 4 3 0 b.hn false, svN b.dn b.dA b.dM b.dW])), some (.rows 3 1 b.mn G), some (.rows 73 3 b.hn (qF (fun _ => -8) b.hM b.hW))] 5 (fun Lf => decide
  (Int.ofNat k < Int.ofNat (Mb.mn b)) = false ∧ Lf) := by unfold LD LQ; kernel_rfl
theorem wN_vq (x0 : Cl) (f : Nat → Int) (m : Nat) (b : Mb) (h : decide ((bif Nat.blt (m + 1) (m + 1) then f (m + 1) else (-91)) = (-91)) = true) : VD Try.prog 7 [isv (m + 1) f,
  .agg (vwL b)] [] (Orc.cal [] (.b true) [] (Orc.c (Orc.cal [] (.tup [.p 0 0, .i .i64 0]) [.set (clO x0)] (Orc.c (Orc.cal [1, 5] (.tup [.l0, .i .i64 19]) [.keep, .keep] (Orc.f
  (Orc.lop [5] [7, 10, 54, 55] 1 (XO.exit 0) [(10, .i .i64 19)] [none] (Orc.c Orc.z)))))))) (.b true) [] [] 7 (fun Lf => Con Try.prog 13 [] [] (.b true) [] ∧ True ∧ Con
  Try.prog 8 [.i .i64 0, .i .i64 1, .i .i64 1] [] (.tup [.p 0 0, .i .i64 0]) [.set (clO x0)] ∧ (True ∧ True ∧ 0 + (m + 1) ≤ 140737488355328 ∧ (3 * (0 + (m + 1)) + 1536) * 8 ≤
  562949953421312) ∧ (0 + (m + 1) ≤ m + 1 ∧ True ∧ m + 1 + 1 ≤ 140737488355328 ∧ (3 * (m + 1 + 1) + 1536) * 8 ≤ 562949953421312) ∧ (True ∧ 0 ≤ Int.ofNat (m + 1) ∧ 0 ≤ m + 1 ∧ m
  + 1 ≤ addN (m + 1) 1 ∧ (0 = 0 ∨ 0 < addN (m + 1) 1)) ∧ Con Try.prog 9 [.p 0 0, .i .i64 0, .agg [.i .i64 7, .i .i64 0, .i .i64 0, .i .i64 0, .i .i64 1, .i .i64 0, .i .i64 0,
  .i .i64 0, .lr 1 1 0 (m + 1) false, .i .i64 0]] [some (clO x0), some (AObj.rows 3 1 (addN (m + 1) 1) (appZ (m + 1) (fun i _ => CV.i .i64 (f i)) (listF 1 [CV.i .i64 (-91)]
  1)))] (.tup [.l0, .i .i64 19]) [.keep, .keep] ∧ (0 ≤ Int.ofNat (m + 1) ∧ Int.ofNat (m + 1) < ↑(addN (m + 1) 1)) ∧ m + 1 < addN (m + 1) 1 ∧ (!decide ((bif Nat.blt (m + 1) (m +
  1) then f (m + 1) else (-91)) = (-91))) = false ∧ LDoes Try.prog (loopAt Try.prog 7 0) 174 1 (mkT [(7, .lr 0 1 0 (addN (m + 1) 1) false), (10, .i .i64 19), (54, .i .i64
  (Int.ofNat (addN (m + 1) 1))), (55, .i .i64 0)]) [some (AObj.rows 3 1 (addN (m + 1) 1) (appZ (m + 1) (fun i _ => CV.i .i64 (f i)) (listF 1 [CV.i .i64 (-91)] 1)))] (XO.exit 0)
  (mkT [(10, .i .i64 19)]) [none] ∧ Lf) := by unfold VD VQ; kernel_rfl
theorem wY_vq (x0 : Cl) (x1 : Cl) (x2 : Cl) (x3 : Cl) (m2 : Mg) (f : Nat → Int) (m : Nat) (ti : Int) (b : Mb) (h : decide ((bif Nat.blt (m + 1) (m + 1) then f (m + 1) else
  (-91)) = (-91)) = true) : VD Try.prog 7 [isv (m + 1) f, .agg (vwL b)] [] (Orc.cal [] (.b true) [] (Orc.c (Orc.cal [] (.tup [.p 0 0, .i .i64 0]) [.set (clO x0)] (Orc.c
  (Orc.cal [1, 5] (.tup [.l 2 0 1 1 25 true, .i .i64 0]) [.set (clO x1), .keep, .set (moO x0 3 (m + 1)), .set (AObj.rows 3 1 (m + 1) fun i _ => CV.i .i64 (f i))] (Orc.f
  (Orc.lop [0, 1, 5, 7, 8] [0, 3, 5, 7, 9, 10, 54, 55] 1 (XO.exit 0) [(0, isv (m + 1) f), (3, .p 0 0), (5, .p 1 0), (9, .l 3 0 1 1 25 true), (10, .i .i64 0)] [some (vwO b),
  some (clO x1), none, some (moO x0 4 (m + 1)), some (AObj.rows 3 1 (m + 1) fun i _ => CV.i .i64 (f i))] (oc 9 (Orc.cal [12] (.b true) [.keep] (oc 4 (Orc.lop [0, 9, 11, 12] [0,
  3, 5, 9, 84, 85] 1 (XO.exit 2) [(0, isv (m + 1) f), (3, .p 0 0), (5, .p 1 0)] [some (vwO b), some (clO x1), none, none] (Orc.cal [13] (.tup [.agg [.i .i64 (Cm.k (Cl.c x1)),
  .i .i64 (Cm.sv (Cl.c x1)), .i .i64 (Cm.bt (Cl.c x1)), .i .i64 (Cm.sq (Cl.c x1)), .i .i64 (Cm.gn (Cl.c x1)), .i .i64 (Cm.lk (Cl.c x1)), .i .i64 (Cm.md (Cl.c x1)), .i .i64
  (Cm.ot (Cl.c x1)), .lr 1 1 0 (m + 1) false, .i .i64 (Cm.d (Cl.c x1))], .b true]) [.keep, .set (AObj.rows 3 1 (m + 1) fun i _ => CV.i .i64 (f i))] (Orc.lop [0, 13, 17, 16] [0,
  3, 5, 13, 103, 104] 1 (XO.exit 4) [(0, isv (m + 1) f), (3, .p 0 0), (5, .p 1 0)] [some (vwO b), some (clO x1), none, none] (Orc.cal [18] (.tup [mg1 m2, .i .i64 0]) [.set (clO
  x2)] (Orc.inl (Orc.cal [] (.agg [.i .i64 9, .i .i64 0, .i .i64 8, .i .i64 0, .i .i64 0, .i .i64 0, .s [], .s [], .i .i64 1, .i .i64 0, .i .i64 1, .i .i64 1, .i .i64 0, .i
  .i64 0, .i .i64 0, .i .i64 0, isv 0 fun x => 0, .i .i64 0, .i .i64 (Mb.x b 6), .i .i64 (Mb.x b 7), .i .i64 (Mb.x b 8), isv (Mb.mn b) (Mb.mf b), isv (Mb.sn b) (Mb.sf b), svN
  (Mb.hn b) (Mb.hA b) (Mb.hM b) (Mb.hW b), svN (Mb.dn b) (Mb.dA b) (Mb.dM b) (Mb.dW b)]) [] (Orc.cal [18] (.tup [.agg [.i .i64 (Mb.x b 6), .i .i64 (Mb.x b 7), .i .i64 (Mb.x b
  8), .lr 1 1 0 (Mb.mn b) false, isv (Mb.sn b) (Mb.sf b), .lr 2 3 0 (Mb.hn b) false, svN (Mb.dn b) (Mb.dA b) (Mb.dM b) (Mb.dW b)], .i .i64 ti, .b true]) [.set (clO x3), .set
  (AObj.rows 3 1 (Mb.mn b) fun i _ => CV.i .i64 (Mb.mf b i)), .set (AObj.rows 73 3 (Mb.hn b) (qF (Mb.hA b) (Mb.hM b) (Mb.hW b)))] (Orc.lop [22, 23, 26, 24, 25] [0, 16, 18, 19,
  20, 22, 131, 132] 1 (XO.exit 6) [(0, isv (m + 1) f), (16, mg1 m2), (18, .p 0 0), (19, .p 1 0), (20, .p 2 0), (22, .b true)] [some (AObj.cells 47 25 [.i .i64 0, .i .i64 0, .i
  .i64 0, .i .i64 0, .i .i64 0, .i .i64 0, .s [], .s [], .i .i64 0, .i .i64 0, .i .i64 0, .i .i64 0, .i .i64 0, .i .i64 0, .i .i64 0, .i .i64 0, .l0, .i .i64 0, .i .i64 0, .i
  .i64 0, .i .i64 0, .l0, .l0, .l0, .l0] (setAll T.e 0 [.i .i64 9, .i .i64 0, .i .i64 8, .i .i64 0, .i .i64 0, .i .i64 0, .s [], .s [], .i .i64 1, .i .i64 0, .i .i64 1, .i .i64
  1, .i .i64 0, .i .i64 0, .i .i64 0, .i .i64 0, .l0, .i .i64 0, .i .i64 (Mb.x b 6), .i .i64 (Mb.x b 7), .i .i64 (Mb.x b 8), isv (Mb.mn b) (Mb.mf b), isv (Mb.sn b) (Mb.sf b),
  svN (Mb.hn b) (Mb.hA b) (Mb.hM b) (Mb.hW b), svN (Mb.dn b) (Mb.dA b) (Mb.dM b) (Mb.dW b)])), some (AObj.cells 47 25 [.i .i64 0, .i .i64 0, .i .i64 0, .i .i64 0, .i .i64 0, .i
  .i64 0, .s [], .s [], .i .i64 0, .i .i64 0, .i .i64 0, .i .i64 0, .i .i64 0, .i .i64 0, .i .i64 0, .i .i64 0, .l0, .i .i64 0, .i .i64 0, .i .i64 0, .i .i64 0, .l0, .l0, .l0,
  .l0] (setAll T.e 0 [.i .i64 9, .i .i64 0, .i .i64 8, .i .i64 0, .i .i64 0, .i .i64 0, .s [], .s [], .i .i64 1, .i .i64 0, .i .i64 1, .i .i64 1, .i .i64 0, .i .i64 0, .i .i64
  0, .i .i64 0, isv 0 fun x => 0, .i .i64 0, .i .i64 (Mb.x b 6), .i .i64 (Mb.x b 7), .i .i64 (Mb.x b 8), isv (Mb.mn b) (Mb.mf b), isv (Mb.sn b) (Mb.sf b), svN (Mb.hn b) (Mb.hA
  b) (Mb.hM b) (Mb.hW b), svN (Mb.dn b) (Mb.dA b) (Mb.dM b) (Mb.dW b)])), some (AObj.cells 40 7 [.i .i64 0, .i .i64 0, .i .i64 0, .l0, .l0, .l0, .l0] (setAll T.e 0 [.i .i64
  (Mb.x b 6), .i .i64 (Mb.x b 7), .i .i64 (Mb.x b 8), .lr 3 1 0 (Mb.mn b) false, isv (Mb.sn b) (Mb.sf b), .lr 4 3 0 (Mb.hn b) false, svN (Mb.dn b) (Mb.dA b) (Mb.dM b) (Mb.dW
  b)])), some (AObj.rows 3 1 (Mb.mn b) fun i _ => CV.i .i64 (Mb.mf b i)), some (AObj.rows 73 3 (Mb.hn b) (qF (fun x => (-8)) (Mb.hM b) (Mb.hW b)))] (Orc.lop [22, 27, 28, 29,
  30] [0, 16, 18, 19, 20, 22, 144, 145] 1 (XO.exit 8) [(0, isv (m + 1) f), (16, mg1 m2), (18, .p 0 0), (19, .p 1 0), (22, .b true)] [some (AObj.cells 47 25 [.i .i64 0, .i .i64
  0, .i .i64 0, .i .i64 0, .i .i64 0, .i .i64 0, .s [], .s [], .i .i64 0, .i .i64 0, .i .i64 0, .i .i64 0, .i .i64 0, .i .i64 0, .i .i64 0, .i .i64 0, .l0, .i .i64 0, .i .i64
  0, .i .i64 0, .i .i64 0, .l0, .l0, .l0, .l0] (setAll T.e 0 [.i .i64 9, .i .i64 0, .i .i64 8, .i .i64 0, .i .i64 0, .i .i64 0, .s [], .s [], .i .i64 1, .i .i64 0, .i .i64 1,
  .i .i64 1, .i .i64 0, .i .i64 0, .i .i64 0, .i .i64 0, .l0, .i .i64 0, .i .i64 (Mb.x b 6), .i .i64 (Mb.x b 7), .i .i64 (Mb.x b 8), isv (Mb.mn b) (Mb.mf b), isv (Mb.sn b)
  (Mb.sf b), svN (Mb.hn b) (Mb.hA b) (Mb.hM b) (Mb.hW b), svN (Mb.dn b) (Mb.dA b) (Mb.dM b) (Mb.dW b)])), some (AObj.cells 47 25 [.i .i64 0, .i .i64 0, .i .i64 0, .i .i64 0, .i
  .i64 0, .i .i64 0, .s [], .s [], .i .i64 0, .i .i64 0, .i .i64 0, .i .i64 0, .i .i64 0, .i .i64 0, .i .i64 0, .i .i64 0, .l0, .i .i64 0, .i .i64 0, .i .i64 0, .i .i64 0, .l0,
  .l0, .l0, .l0] (setAll T.e 0 [.i .i64 9, .i .i64 0, .i .i64 8, .i .i64 0, .i .i64 0, .i .i64 0, .s [], .s [], .i .i64 1, .i .i64 0, .i .i64 1, .i .i64 1, .i .i64 0, .i .i64
  0, .i .i64 0, .i .i64 0, isv 0 fun x => 0, .i .i64 0, .i .i64 (Mb.x b 6), .i .i64 (Mb.x b 7), .i .i64 (Mb.x b 8), isv (Mb.mn b) (Mb.mf b), isv (Mb.sn b) (Mb.sf b), svN (Mb.hn
  b) (Mb.hA b) (Mb.hM b) (Mb.hW b), svN (Mb.dn b) (Mb.dA b) (Mb.dM b) (Mb.dW b)])), none, none, none] (oc 11 (Orc.cal [] (.b true) [] (oc 4 (Orc.cal [] (.b true) [] (Orc.c
  Orc.z)))))))))))))))))))))))) (.b true) [] [] 35 (fun Lf => Con Try.prog 13 [] [] (.b true) [] ∧ True ∧ Con Try.prog 8 [.i .i64 0, .i .i64 1, .i .i64 1] [] (.tup [.p 0 0, .i
  .i64 0]) [.set (clO x0)] ∧ (True ∧ True ∧ 0 + (m + 1) ≤ 140737488355328 ∧ (3 * (0 + (m + 1)) + 1536) * 8 ≤ 562949953421312) ∧ (0 + (m + 1) ≤ m + 1 ∧ True ∧ m + 1 + 1 ≤
  140737488355328 ∧ (3 * (m + 1 + 1) + 1536) * 8 ≤ 562949953421312) ∧ (True ∧ 0 ≤ Int.ofNat (m + 1) ∧ 0 ≤ m + 1 ∧ m + 1 ≤ addN (m + 1) 1 ∧ (0 = 0 ∨ 0 < addN (m + 1) 1)) ∧ Con
  Try.prog 9 [.p 0 0, .i .i64 0, .agg [.i .i64 7, .i .i64 0, .i .i64 0, .i .i64 0, .i .i64 1, .i .i64 0, .i .i64 0, .i .i64 0, .lr 1 1 0 (m + 1) false, .i .i64 0]] [some (clO
  x0), some (AObj.rows 3 1 (addN (m + 1) 1) (appZ (m + 1) (fun i _ => CV.i .i64 (f i)) (listF 1 [CV.i .i64 (-91)] 1)))] (.tup [.l 2 0 1 1 25 true, .i .i64 0]) [.set (clO x1),
  .keep, .set (moO x0 3 (m + 1)), .set (AObj.rows 3 1 (m + 1) fun i _ => CV.i .i64 (f i))] ∧ (0 ≤ Int.ofNat (m + 1) ∧ Int.ofNat (m + 1) < ↑(addN (m + 1) 1)) ∧ m + 1 < addN (m +
  1) 1 ∧ (!decide ((bif Nat.blt (m + 1) (m + 1) then f (m + 1) else (-91)) = (-91))) = false ∧ LDoes Try.prog (loopAt Try.prog 7 0) 174 1 (mkT [(0, isv (m + 1) f), (3, .p 0 0),
  (5, .p 1 0), (7, .lr 2 1 0 (addN (m + 1) 1) false), (9, .l 3 0 1 1 25 true), (10, .i .i64 0), (54, .i .i64 (Int.ofNat (addN (m + 1) 1))), (55, .i .i64 0)]) [some (vwO b),
  some (clO x1), some (AObj.rows 3 1 (addN (m + 1) 1) (appZ (m + 1) (fun i _ => CV.i .i64 (f i)) (listF 1 [CV.i .i64 (-91)] 1))), some (moO x0 4 (m + 1)), some (AObj.rows 3 1
  (m + 1) fun i _ => CV.i .i64 (f i))] (XO.exit 0) (mkT [(0, isv (m + 1) f), (3, .p 0 0), (5, .p 1 0), (9, .l 3 0 1 1 25 true), (10, .i .i64 0)]) [some (vwO b), some (clO x1),
  none, some (moO x0 4 (m + 1)), some (AObj.rows 3 1 (m + 1) fun i _ => CV.i .i64 (f i))] ∧ True ∧ Con Try.prog 22 [.agg [.i .i64 7, .i .i64 (Cl.s x0), .i .i64 (Cl.b x0), .i
  .i64 (Cl.n x0 + 1), .i .i64 1, .i .i64 0, .i .i64 0, .i .i64 0, .lr 0 1 0 (m + 1) false, .i .i64 0], .agg [.i .i64 7, .i .i64 0, .i .i64 1, .i .i64 1, .i .i64 1, .i .i64 0,
  .i .i64 0, .i .i64 0, isv (m + 1) f, .i .i64 0]] [some (AObj.rows 3 1 (m + 1) fun i _ => CV.i .i64 (f i))] (.b true) [.keep] ∧ True ∧ True ∧ True ∧ LDoes Try.prog (loopAt
  Try.prog 7 1) 174 1 (mkT [(0, isv (m + 1) f), (3, .p 0 0), (5, .p 1 0), (9, .l 2 0 1 1 25 true), (84, .i .i64 (Int.ofNat (m + 1))), (85, .i .i64 0)]) [some (vwO b), some (clO
  x1), some (moO x0 3 (m + 1)), some (AObj.rows 3 1 (m + 1) fun i _ => CV.i .i64 (f i))] (XO.exit 2) (mkT [(0, isv (m + 1) f), (3, .p 0 0), (5, .p 1 0)]) [some (vwO b), some
  (clO x1), none, none] ∧ Con Try.prog 12 [.p 0 0] [some (clO x1)] (.tup [.agg [.i .i64 (Cm.k (Cl.c x1)), .i .i64 (Cm.sv (Cl.c x1)), .i .i64 (Cm.bt (Cl.c x1)), .i .i64 (Cm.sq
  (Cl.c x1)), .i .i64 (Cm.gn (Cl.c x1)), .i .i64 (Cm.lk (Cl.c x1)), .i .i64 (Cm.md (Cl.c x1)), .i .i64 (Cm.ot (Cl.c x1)), .lr 1 1 0 (m + 1) false, .i .i64 (Cm.d (Cl.c x1))], .b
  true]) [.keep, .set (AObj.rows 3 1 (m + 1) fun i _ => CV.i .i64 (f i))] ∧ True ∧ LDoes Try.prog (loopAt Try.prog 7 2) 174 1 (mkT [(0, isv (m + 1) f), (3, .p 0 0), (5, .p 1
  0), (13, .p 2 0), (103, .i .i64 (Int.ofNat (m + 1))), (104, .i .i64 0)]) [some (vwO b), some (clO x1), some (AObj.cells 33 10 [.i .i64 0, .i .i64 0, .i .i64 0, .i .i64 0, .i
  .i64 0, .i .i64 0, .i .i64 0, .i .i64 0, .l0, .i .i64 0] (setAll T.e 0 [.i .i64 (Cm.k (Cl.c x1)), .i .i64 (Cm.sv (Cl.c x1)), .i .i64 (Cm.bt (Cl.c x1)), .i .i64 (Cm.sq (Cl.c
  x1)), .i .i64 (Cm.gn (Cl.c x1)), .i .i64 (Cm.lk (Cl.c x1)), .i .i64 (Cm.md (Cl.c x1)), .i .i64 (Cm.ot (Cl.c x1)), .lr 3 1 0 (m + 1) false, .i .i64 (Cm.d (Cl.c x1))])), some
  (AObj.rows 3 1 (m + 1) fun i _ => CV.i .i64 (f i))] (XO.exit 4) (mkT [(0, isv (m + 1) f), (3, .p 0 0), (5, .p 1 0)]) [some (vwO b), some (clO x1), none, none] ∧ Con Try.prog
  10 [.p 0 0, .i .i64 10] [some (clO x1)] (.tup [mg1 m2, .i .i64 0]) [.set (clO x2)] ∧ rg (8) ∧ True ∧ Con Try.prog 17 [.agg [.i .i64 9, .i .i64 0, .i .i64 8, .i .i64 0, .i
  .i64 0, .i .i64 0, .s [], .s [], .i .i64 1, .i .i64 0, .i .i64 1, .i .i64 1, .i .i64 0, .i .i64 0, .i .i64 0, .i .i64 0, .l0, .i .i64 0, .i .i64 (Mb.x b 6), .i .i64 (Mb.x b
  7), .i .i64 (Mb.x b 8), isv (Mb.mn b) (Mb.mf b), isv (Mb.sn b) (Mb.sf b), svN (Mb.hn b) (Mb.hA b) (Mb.hM b) (Mb.hW b), svN (Mb.dn b) (Mb.dA b) (Mb.dM b) (Mb.dW b)]] [] (.agg
  [.i .i64 9, .i .i64 0, .i .i64 8, .i .i64 0, .i .i64 0, .i .i64 0, .s [], .s [], .i .i64 1, .i .i64 0, .i .i64 1, .i .i64 1, .i .i64 0, .i .i64 0, .i .i64 0, .i .i64 0, isv 0
  fun x => 0, .i .i64 0, .i .i64 (Mb.x b 6), .i .i64 (Mb.x b 7), .i .i64 (Mb.x b 8), isv (Mb.mn b) (Mb.mf b), isv (Mb.sn b) (Mb.sf b), svN (Mb.hn b) (Mb.hA b) (Mb.hM b) (Mb.hW
  b), svN (Mb.dn b) (Mb.dA b) (Mb.dM b) (Mb.dW b)]) [] ∧ Con Try.prog 11 [.p 0 0, .agg [.i .i64 9, .i .i64 0, .i .i64 8, .i .i64 0, .i .i64 0, .i .i64 0, .s [], .s [], .i .i64
  1, .i .i64 0, .i .i64 1, .i .i64 1, .i .i64 0, .i .i64 0, .i .i64 0, .i .i64 0, .l0, .i .i64 0, .i .i64 (Mb.x b 6), .i .i64 (Mb.x b 7), .i .i64 (Mb.x b 8), isv (Mb.mn b)
  (Mb.mf b), isv (Mb.sn b) (Mb.sf b), svN (Mb.hn b) (Mb.hA b) (Mb.hM b) (Mb.hW b), svN (Mb.dn b) (Mb.dA b) (Mb.dM b) (Mb.dW b)]] [some (clO x2)] (.tup [.agg [.i .i64 (Mb.x b
  6), .i .i64 (Mb.x b 7), .i .i64 (Mb.x b 8), .lr 1 1 0 (Mb.mn b) false, isv (Mb.sn b) (Mb.sf b), .lr 2 3 0 (Mb.hn b) false, svN (Mb.dn b) (Mb.dA b) (Mb.dM b) (Mb.dW b)], .i
  .i64 ti, .b true]) [.set (clO x3), .set (AObj.rows 3 1 (Mb.mn b) fun i _ => CV.i .i64 (Mb.mf b i)), .set (AObj.rows 73 3 (Mb.hn b) (qF (Mb.hA b) (Mb.hM b) (Mb.hW b)))] ∧ True
  ∧ LDoes Try.prog (loopAt Try.prog 7 3) 174 1 (mkT [(0, isv (m + 1) f), (16, mg1 m2), (18, .p 0 0), (19, .p 1 0), (20, .p 2 0), (22, .b true), (131, .i .i64 (Int.ofNat (Mb.hn
  b))), (132, .i .i64 0)]) [some (AObj.cells 47 25 [.i .i64 0, .i .i64 0, .i .i64 0, .i .i64 0, .i .i64 0, .i .i64 0, .s [], .s [], .i .i64 0, .i .i64 0, .i .i64 0, .i .i64 0,
  .i .i64 0, .i .i64 0, .i .i64 0, .i .i64 0, .l0, .i .i64 0, .i .i64 0, .i .i64 0, .i .i64 0, .l0, .l0, .l0, .l0] (setAll T.e 0 [.i .i64 9, .i .i64 0, .i .i64 8, .i .i64 0, .i
  .i64 0, .i .i64 0, .s [], .s [], .i .i64 1, .i .i64 0, .i .i64 1, .i .i64 1, .i .i64 0, .i .i64 0, .i .i64 0, .i .i64 0, .l0, .i .i64 0, .i .i64 (Mb.x b 6), .i .i64 (Mb.x b
  7), .i .i64 (Mb.x b 8), isv (Mb.mn b) (Mb.mf b), isv (Mb.sn b) (Mb.sf b), svN (Mb.hn b) (Mb.hA b) (Mb.hM b) (Mb.hW b), svN (Mb.dn b) (Mb.dA b) (Mb.dM b) (Mb.dW b)])), some
  (AObj.cells 47 25 [.i .i64 0, .i .i64 0, .i .i64 0, .i .i64 0, .i .i64 0, .i .i64 0, .s [], .s [], .i .i64 0, .i .i64 0, .i .i64 0, .i .i64 0, .i .i64 0, .i .i64 0, .i .i64
  0, .i .i64 0, .l0, .i .i64 0, .i .i64 0, .i .i64 0, .i .i64 0, .l0, .l0, .l0, .l0] (setAll T.e 0 [.i .i64 9, .i .i64 0, .i .i64 8, .i .i64 0, .i .i64 0, .i .i64 0, .s [], .s
  [], .i .i64 1, .i .i64 0, .i .i64 1, .i .i64 1, .i .i64 0, .i .i64 0, .i .i64 0, .i .i64 0, isv 0 fun x => 0, .i .i64 0, .i .i64 (Mb.x b 6), .i .i64 (Mb.x b 7), .i .i64 (Mb.x
  b 8), isv (Mb.mn b) (Mb.mf b), isv (Mb.sn b) (Mb.sf b), svN (Mb.hn b) (Mb.hA b) (Mb.hM b) (Mb.hW b), svN (Mb.dn b) (Mb.dA b) (Mb.dM b) (Mb.dW b)])), some (AObj.cells 40 7 [.i
  .i64 0, .i .i64 0, .i .i64 0, .l0, .l0, .l0, .l0] (setAll T.e 0 [.i .i64 (Mb.x b 6), .i .i64 (Mb.x b 7), .i .i64 (Mb.x b 8), .lr 3 1 0 (Mb.mn b) false, isv (Mb.sn b) (Mb.sf
  b), .lr 4 3 0 (Mb.hn b) false, svN (Mb.dn b) (Mb.dA b) (Mb.dM b) (Mb.dW b)])), some (AObj.rows 3 1 (Mb.mn b) fun i _ => CV.i .i64 (Mb.mf b i)), some (AObj.rows 73 3 (Mb.hn b)
  (qF (Mb.hA b) (Mb.hM b) (Mb.hW b)))] (XO.exit 6) (mkT [(0, isv (m + 1) f), (16, mg1 m2), (18, .p 0 0), (19, .p 1 0), (20, .p 2 0), (22, .b true)]) [some (AObj.cells 47 25 [.i
  .i64 0, .i .i64 0, .i .i64 0, .i .i64 0, .i .i64 0, .i .i64 0, .s [], .s [], .i .i64 0, .i .i64 0, .i .i64 0, .i .i64 0, .i .i64 0, .i .i64 0, .i .i64 0, .i .i64 0, .l0, .i
  .i64 0, .i .i64 0, .i .i64 0, .i .i64 0, .l0, .l0, .l0, .l0] (setAll T.e 0 [.i .i64 9, .i .i64 0, .i .i64 8, .i .i64 0, .i .i64 0, .i .i64 0, .s [], .s [], .i .i64 1, .i .i64
  0, .i .i64 1, .i .i64 1, .i .i64 0, .i .i64 0, .i .i64 0, .i .i64 0, .l0, .i .i64 0, .i .i64 (Mb.x b 6), .i .i64 (Mb.x b 7), .i .i64 (Mb.x b 8), isv (Mb.mn b) (Mb.mf b), isv
  (Mb.sn b) (Mb.sf b), svN (Mb.hn b) (Mb.hA b) (Mb.hM b) (Mb.hW b), svN (Mb.dn b) (Mb.dA b) (Mb.dM b) (Mb.dW b)])), some (AObj.cells 47 25 [.i .i64 0, .i .i64 0, .i .i64 0, .i
  .i64 0, .i .i64 0, .i .i64 0, .s [], .s [], .i .i64 0, .i .i64 0, .i .i64 0, .i .i64 0, .i .i64 0, .i .i64 0, .i .i64 0, .i .i64 0, .l0, .i .i64 0, .i .i64 0, .i .i64 0, .i
  .i64 0, .l0, .l0, .l0, .l0] (setAll T.e 0 [.i .i64 9, .i .i64 0, .i .i64 8, .i .i64 0, .i .i64 0, .i .i64 0, .s [], .s [], .i .i64 1, .i .i64 0, .i .i64 1, .i .i64 1, .i .i64
  0, .i .i64 0, .i .i64 0, .i .i64 0, isv 0 fun x => 0, .i .i64 0, .i .i64 (Mb.x b 6), .i .i64 (Mb.x b 7), .i .i64 (Mb.x b 8), isv (Mb.mn b) (Mb.mf b), isv (Mb.sn b) (Mb.sf b),
  svN (Mb.hn b) (Mb.hA b) (Mb.hM b) (Mb.hW b), svN (Mb.dn b) (Mb.dA b) (Mb.dM b) (Mb.dW b)])), some (AObj.cells 40 7 [.i .i64 0, .i .i64 0, .i .i64 0, .l0, .l0, .l0, .l0]
  (setAll T.e 0 [.i .i64 (Mb.x b 6), .i .i64 (Mb.x b 7), .i .i64 (Mb.x b 8), .lr 3 1 0 (Mb.mn b) false, isv (Mb.sn b) (Mb.sf b), .lr 4 3 0 (Mb.hn b) false, svN (Mb.dn b) (Mb.dA
  b) (Mb.dM b) (Mb.dW b)])), some (AObj.rows 3 1 (Mb.mn b) fun i _ => CV.i .i64 (Mb.mf b i)), some (AObj.rows 73 3 (Mb.hn b) (qF (fun x => (-8)) (Mb.hM b) (Mb.hW b)))] ∧ True ∧
  True ∧ LDoes Try.prog (loopAt Try.prog 7 4) 174 1 (mkT [(0, isv (m + 1) f), (16, mg1 m2), (18, .p 0 0), (19, .p 1 0), (20, .p 2 0), (22, .b true), (144, .i .i64 (Int.ofNat
  (Mb.mn b))), (145, .i .i64 0)]) [some (AObj.cells 47 25 [.i .i64 0, .i .i64 0, .i .i64 0, .i .i64 0, .i .i64 0, .i .i64 0, .s [], .s [], .i .i64 0, .i .i64 0, .i .i64 0, .i
  .i64 0, .i .i64 0, .i .i64 0, .i .i64 0, .i .i64 0, .l0, .i .i64 0, .i .i64 0, .i .i64 0, .i .i64 0, .l0, .l0, .l0, .l0] (setAll T.e 0 [.i .i64 9, .i .i64 0, .i .i64 8, .i
  .i64 0, .i .i64 0, .i .i64 0, .s [], .s [], .i .i64 1, .i .i64 0, .i .i64 1, .i .i64 1, .i .i64 0, .i .i64 0, .i .i64 0, .i .i64 0, .l0, .i .i64 0, .i .i64 (Mb.x b 6), .i
  .i64 (Mb.x b 7), .i .i64 (Mb.x b 8), isv (Mb.mn b) (Mb.mf b), isv (Mb.sn b) (Mb.sf b), svN (Mb.hn b) (Mb.hA b) (Mb.hM b) (Mb.hW b), svN (Mb.dn b) (Mb.dA b) (Mb.dM b) (Mb.dW
  b)])), some (AObj.cells 47 25 [.i .i64 0, .i .i64 0, .i .i64 0, .i .i64 0, .i .i64 0, .i .i64 0, .s [], .s [], .i .i64 0, .i .i64 0, .i .i64 0, .i .i64 0, .i .i64 0, .i .i64
  0, .i .i64 0, .i .i64 0, .l0, .i .i64 0, .i .i64 0, .i .i64 0, .i .i64 0, .l0, .l0, .l0, .l0] (setAll T.e 0 [.i .i64 9, .i .i64 0, .i .i64 8, .i .i64 0, .i .i64 0, .i .i64 0,
  .s [], .s [], .i .i64 1, .i .i64 0, .i .i64 1, .i .i64 1, .i .i64 0, .i .i64 0, .i .i64 0, .i .i64 0, isv 0 fun x => 0, .i .i64 0, .i .i64 (Mb.x b 6), .i .i64 (Mb.x b 7), .i
  .i64 (Mb.x b 8), isv (Mb.mn b) (Mb.mf b), isv (Mb.sn b) (Mb.sf b), svN (Mb.hn b) (Mb.hA b) (Mb.hM b) (Mb.hW b), svN (Mb.dn b) (Mb.dA b) (Mb.dM b) (Mb.dW b)])), some
  (AObj.cells 40 7 [.i .i64 0, .i .i64 0, .i .i64 0, .l0, .l0, .l0, .l0] (setAll T.e 0 [.i .i64 (Mb.x b 6), .i .i64 (Mb.x b 7), .i .i64 (Mb.x b 8), .lr 3 1 0 (Mb.mn b) false,
  isv (Mb.sn b) (Mb.sf b), .lr 4 3 0 (Mb.hn b) false, svN (Mb.dn b) (Mb.dA b) (Mb.dM b) (Mb.dW b)])), some (AObj.rows 3 1 (Mb.mn b) fun i _ => CV.i .i64 (Mb.mf b i)), some
  (AObj.rows 73 3 (Mb.hn b) (qF (fun x => (-8)) (Mb.hM b) (Mb.hW b)))] (XO.exit 8) (mkT [(0, isv (m + 1) f), (16, mg1 m2), (18, .p 0 0), (19, .p 1 0), (22, .b true)]) [some
  (AObj.cells 47 25 [.i .i64 0, .i .i64 0, .i .i64 0, .i .i64 0, .i .i64 0, .i .i64 0, .s [], .s [], .i .i64 0, .i .i64 0, .i .i64 0, .i .i64 0, .i .i64 0, .i .i64 0, .i .i64
  0, .i .i64 0, .l0, .i .i64 0, .i .i64 0, .i .i64 0, .i .i64 0, .l0, .l0, .l0, .l0] (setAll T.e 0 [.i .i64 9, .i .i64 0, .i .i64 8, .i .i64 0, .i .i64 0, .i .i64 0, .s [], .s
  [], .i .i64 1, .i .i64 0, .i .i64 1, .i .i64 1, .i .i64 0, .i .i64 0, .i .i64 0, .i .i64 0, .l0, .i .i64 0, .i .i64 (Mb.x b 6), .i .i64 (Mb.x b 7), .i .i64 (Mb.x b 8), isv
  (Mb.mn b) (Mb.mf b), isv (Mb.sn b) (Mb.sf b), svN (Mb.hn b) (Mb.hA b) (Mb.hM b) (Mb.hW b), svN (Mb.dn b) (Mb.dA b) (Mb.dM b) (Mb.dW b)])), some (AObj.cells 47 25 [.i .i64 0,
  .i .i64 0, .i .i64 0, .i .i64 0, .i .i64 0, .i .i64 0, .s [], .s [], .i .i64 0, .i .i64 0, .i .i64 0, .i .i64 0, .i .i64 0, .i .i64 0, .i .i64 0, .i .i64 0, .l0, .i .i64 0,
  .i .i64 0, .i .i64 0, .i .i64 0, .l0, .l0, .l0, .l0] (setAll T.e 0 [.i .i64 9, .i .i64 0, .i .i64 8, .i .i64 0, .i .i64 0, .i .i64 0, .s [], .s [], .i .i64 1, .i .i64 0, .i
  .i64 1, .i .i64 1, .i .i64 0, .i .i64 0, .i .i64 0, .i .i64 0, isv 0 fun x => 0, .i .i64 0, .i .i64 (Mb.x b 6), .i .i64 (Mb.x b 7), .i .i64 (Mb.x b 8), isv (Mb.mn b) (Mb.mf
  b), isv (Mb.sn b) (Mb.sf b), svN (Mb.hn b) (Mb.hA b) (Mb.hM b) (Mb.hW b), svN (Mb.dn b) (Mb.dA b) (Mb.dM b) (Mb.dW b)])), none, none, none] ∧ ((0 : Int) ≤ (0 : Int) ∧ (0 :
  Int) < (1 : Int)) ∧ True ∧ True ∧ Con Try.prog 22 [.agg [.i .i64 (Cm.k (Mg.c m2)), .i .i64 (Cm.sv (Mg.c m2)), .i .i64 (Cm.bt (Mg.c m2)), .i .i64 (Cm.sq (Mg.c m2)), .i .i64
  (Cm.gn (Mg.c m2)), .i .i64 (Cm.lk (Mg.c m2)), .i .i64 (Cm.md (Mg.c m2)), .i .i64 (Cm.ot (Mg.c m2)), isv (Cm.mn (Mg.c m2)) (Cm.mf (Mg.c m2)), .i .i64 (Cm.d (Mg.c m2))], .agg
  [.i .i64 7, .i .i64 0, .i .i64 1, .i .i64 1, .i .i64 1, .i .i64 0, .i .i64 0, .i .i64 0, isv (m + 1) f, .i .i64 0]] [] (.b true) [] ∧ Con Try.prog 25 [.agg [.i .i64 9, .i
  .i64 0, .i .i64 8, .i .i64 0, .i .i64 0, .i .i64 0, .s [], .s [], .i .i64 1, .i .i64 0, .i .i64 1, .i .i64 1, .i .i64 0, .i .i64 0, .i .i64 0, .i .i64 0, .l0, .i .i64 0, .i
  .i64 (Mb.x b 6), .i .i64 (Mb.x b 7), .i .i64 (Mb.x b 8), isv (Mb.mn b) (Mb.mf b), isv (Mb.sn b) (Mb.sf b), svN (Mb.hn b) (Mb.hA b) (Mb.hM b) (Mb.hW b), svN (Mb.dn b) (Mb.dA
  b) (Mb.dM b) (Mb.dW b)], .agg [.i .i64 9, .i .i64 0, .i .i64 8, .i .i64 0, .i .i64 0, .i .i64 0, .s [], .s [], .i .i64 1, .i .i64 0, .i .i64 1, .i .i64 1, .i .i64 0, .i .i64
  0, .i .i64 0, .i .i64 0, isv 0 fun x => 0, .i .i64 0, .i .i64 (Mb.x b 6), .i .i64 (Mb.x b 7), .i .i64 (Mb.x b 8), isv (Mb.mn b) (Mb.mf b), isv (Mb.sn b) (Mb.sf b), svN (Mb.hn
  b) (Mb.hA b) (Mb.hM b) (Mb.hW b), svN (Mb.dn b) (Mb.dA b) (Mb.dM b) (Mb.dW b)]] [] (.b true) [] ∧ Lf) := by unfold VD VQ; kernel_rfl
theorem wZ_vq (x0 : Cl) (f : Nat → Nat → CV) (b : Mb) : VD Try.prog 7 [.sv 1 0 f, .agg (vwL b)] [] (Orc.cal [] (.b true) [] (Orc.c (Orc.cal [] (.tup [.p 0 0, .i .i64 0]) [.set
  (clO x0)] (Orc.c (Orc.cal [1, 5] (.tup [.l0, .i .i64 19]) [.keep, .keep] (Orc.c (Orc.inl (Orc.c (Orc.inl (oc 2 Orc.z)))))))))) (.b true) [] [] 7 (fun Lf => Con Try.prog 13 []
  [] (.b true) [] ∧ True ∧ Con Try.prog 8 [.i .i64 0, .i .i64 1, .i .i64 1] [] (.tup [.p 0 0, .i .i64 0]) [.set (clO x0)] ∧ (True ∧ True ∧ 0 ≤ 140737488355328 ∧ 12288 ≤
  562949953421312) ∧ (0 ≤ 0 ∧ True ∧ 1 ≤ 140737488355328 ∧ 12312 ≤ 562949953421312) ∧ (True ∧ (0 : Int) ≤ (0 : Int) ∧ 0 ≤ 0 ∧ 0 ≤ 1 ∧ (0 = 0 ∨ 0 < 1)) ∧ Con Try.prog 9 [.p 0 0,
  .i .i64 0, .agg [.i .i64 7, .i .i64 0, .i .i64 0, .i .i64 0, .i .i64 1, .i .i64 0, .i .i64 0, .i .i64 0, .lr 1 1 0 0 false, .i .i64 0]] [some (clO x0), some (AObj.rows 3 1 1
  (listF 1 [CV.i .i64 (-91)] 1))] (.tup [.l0, .i .i64 19]) [.keep, .keep] ∧ ((0 : Int) ≤ (0 : Int) ∧ (0 : Int) < (1 : Int)) ∧ 0 < 1 ∧ ((0 : Int) ≤ (0 : Int) ∧ (0 : Int) < (1 :
  Int)) ∧ 0 < 1 ∧ rg (1) ∧ Lf) := by unfold VD VQ; kernel_rfl
theorem cla_fq (F : Nat → Nat → CV) (m N : Nat) : VF Try.prog 46 [.lr 0 1 0 (m + 1) false] [some (.rows 3 1 N F)] (Orc.c Orc.z) (.sv 1 (m + 1) (shiftF 0 F)) [.keep] [2] [] ((1
  = 1 ∧ 0 + (m + 1) ≤ m + 1) ∧ True) 3 (fun Lf => True ∧ (True ∧ 0 + (m + 1) ≤ N ∧ 0 + (m + 1) ≤ 140737488355328 ∧ (3 * (0 + (m + 1)) + 1536) * 8 ≤ 562949953421312) ∧ Lf)
  := by unfold VF; kernel_rfl
theorem clb_vq (f : Nat → Int) (m : Nat) : VD Try.prog 46 [isv (m + 1) f] [] (oc 2 Orc.z) (.lr 0 1 0 (m + 1) false) [.set (.rows 3 1 (m + 1) fun i _ => .i .i64 (f i))] [1] 2
  (fun Lf => True ∧ (True ∧ True ∧ 0 + (m + 1) ≤ 140737488355328 ∧ (3 * (0 + (m + 1)) + 1536) * 8 ≤ 562949953421312) ∧ Lf) := by unfold VD VQ; kernel_rfl
theorem clz_vq : VD Try.prog 46 [.lz] [] (Orc.c Orc.z) (.l 0 0 0 0 1 true) [.set (.cells 3 0 [] .e)] [0] 1 (fun Lf => True ∧ Lf) := by unfold VD VQ; kernel_rfl
theorem cln_vq : VD Try.prog 46 [.l0] [] (Orc.c Orc.z) .l0 [] [] 0 (fun Lf => True ∧ Lf) := by unfold VD VQ; kernel_rfl
theorem chb_vq (F : Nat → Nat → CV) (m : Nat) : VD Try.prog 47 [.sv 3 (m + 1) F] [] (oc 2 Orc.z) (.lr 0 3 0 (m + 1) false) [.set (.rows 73 3 (m + 1) F)] [1] 2 (fun Lf => True ∧
  (True ∧ True ∧ 0 + (m + 1) ≤ 140737488355328 ∧ (3 * (0 + (m + 1)) + 1536) * 24 ≤ 562949953421312) ∧ Lf) := by unfold VD VQ; kernel_rfl
theorem chz_vq : VD Try.prog 47 [.lz] [] (Orc.c Orc.z) (.l 0 0 0 0 3 true) [.set (.cells 73 0 [] .e)] [0] 1 (fun Lf => True ∧ Lf) := by unfold VD VQ; kernel_rfl
theorem chn_vq : VD Try.prog 47 [.l0] [] (Orc.c Orc.z) .l0 [] [] 0 (fun Lf => True ∧ Lf) := by unfold VD VQ; kernel_rfl
def kC (n : Nat) (f : Nat → Int) : Cm := ⟨7, 0, 0, 0, 1, 0, 0, 0, n, f, 0⟩
theorem isv_of (n : Nat) (f : Nat → Int) (F : Nat → Nat → CV) (h : ∀ i, i < n → F i 0 = .i .i64 (f i)) : VW (.sv 1 n (shiftF 0 F)) (isv n f) := VW.sv fun i j hi hj => by
  obtain rfl : j = 0 := by omega
  rw [shiftF_eq, Nat.zero_add, h i hi]
theorem clA_con (m N : Nat) (f : Nat → Int) (F : Nat → Nat → CV) (hm : m + 1 ≤ 17592186044416) (hN : m + 1 ≤ N) (h : ∀ i, i < m + 1 → F i 0 = .i .i64 (f i)) : Con Try.prog 46 [.lr 0 1 0 (m + 1) false] [some (.rows 3 1 N F)] (isv (m + 1) f) [.keep] := by
  have b1 : 0 + (m + 1) ≤ N := by omega
  have b2 : 0 + (m + 1) ≤ 140737488355328 := by omega
  have b3 : (3 * (0 + (m + 1)) + 1536) * 8 ≤ 562949953421312 := by omega
  exact Con.post (con_f (cla_fq F m N) ⟨⟨rfl, by omega⟩, trivial⟩ (by repeat' first | exact trivial | assumption | exact rfl | apply And.intro)) (isv_of _ f F h) (.refl _)
theorem cell0_ov (e : TypeId) (sz : Nat) (f : Nat → Nat → CV) : OV (some (.cells e 0 [] .e)) (some (.rows e sz 0 f)) := by
  refine .x ?_
  intro x' hx
  simp only [Option.some.injEq] at hx; subst hx
  refine ⟨_, rfl, fun h => h.elim, ?_⟩
  rintro ρ p w ⟨c, fr, h1, h2, h3, h4, h5⟩
  exact ⟨c, fr, h1, h2, h3, by omega, fun i j hi => absurd hi (Nat.not_lt_zero _)⟩
theorem clB_con (n : Nat) (f : Nat → Int) (hn : n ≤ 17592186044416) : Con Try.prog 46 [isv n f] [] (.lr 0 1 0 n false) [.set (.rows 3 1 n fun i _ => .i .i64 (f i))] := by
  cases n with
  | succ m =>
    have b2 : 0 + (m + 1) ≤ 140737488355328 := by omega
    have b3 : (3 * (0 + (m + 1)) + 1536) * 8 ≤ 562949953421312 := by omega
    exact con_d (clb_vq f m) (by repeat' first | exact trivial | assumption | exact rfl | apply And.intro)
  | zero =>
    have h0 : Con Try.prog 46 [.l0] [] (.lr 0 1 0 0 false) [.set (.rows 3 1 0 fun i _ => .i .i64 (f i))] := by
      have h : Con Try.prog 46 [.l0] [] .l0 [] := con_d cln_vq ⟨trivial, rfl⟩
      exact (h.padV (Nat.le_refl 0) (.rows 3 1 0 fun i _ => .i .i64 (f i)) rfl).post VW.l0_lr (.refl _)
    have hz : Con Try.prog 46 [.lz] [] (.lr 0 1 0 0 false) [.set (.rows 3 1 0 fun i _ => .i .i64 (f i))] := by
      have h : Con Try.prog 46 [.lz] [] (.l 0 0 0 0 1 true) [.set (.cells 3 0 [] .e)] := con_d clz_vq ⟨trivial, rfl⟩
      exact h.post VW.l_lr ⟨cell0_ov _ _ _, trivial⟩
    intro ρ w args' hv hh hoff
    cases hv with | cons _ _ v' _ h1 h2 =>
    cases h1 with | sv _ _ _ _ hc =>
    cases hc with
    | sv0 => exact h0 ρ w _ (.cons _ _ _ _ .l0 h2) hh hoff
    | svz _ _ a c => exact hz ρ w _ (.cons _ _ _ _ (.lz a c) h2) hh hoff
    | sv _ _ _ B o cap g q1 q2 q3 => exact hz ρ w _ (.cons _ _ _ _ (.lz _ cap) h2) hh hoff
theorem chB_con (n : Nat) (F : Nat → Nat → CV) (hn : n ≤ 5864062014805) : Con Try.prog 47 [.sv 3 n F] [] (.lr 0 3 0 n false) [.set (.rows 73 3 n F)] := by
  cases n with
  | succ m =>
    have b2 : 0 + (m + 1) ≤ 140737488355328 := by omega
    have b3 : (3 * (0 + (m + 1)) + 1536) * 24 ≤ 562949953421312 := by omega
    exact con_d (chb_vq F m) (by repeat' first | exact trivial | assumption | exact rfl | apply And.intro)
  | zero =>
    have h0 : Con Try.prog 47 [.l0] [] (.lr 0 3 0 0 false) [.set (.rows 73 3 0 F)] := by
      have h : Con Try.prog 47 [.l0] [] .l0 [] := con_d chn_vq ⟨trivial, rfl⟩
      exact (h.padV (Nat.le_refl 0) (.rows 73 3 0 F) rfl).post VW.l0_lr (.refl _)
    have hz : Con Try.prog 47 [.lz] [] (.lr 0 3 0 0 false) [.set (.rows 73 3 0 F)] := by
      have h : Con Try.prog 47 [.lz] [] (.l 0 0 0 0 3 true) [.set (.cells 73 0 [] .e)] := con_d chz_vq ⟨trivial, rfl⟩
      exact h.post VW.l_lr ⟨cell0_ov _ _ _, trivial⟩
    intro ρ w args' hv hh hoff
    cases hv with | cons _ _ v' _ h1 h2 =>
    cases h1 with | sv _ _ _ _ hc =>
    cases hc with
    | sv0 => exact h0 ρ w _ (.cons _ _ _ _ .l0 h2) hh hoff
    | svz _ _ a c => exact hz ρ w _ (.cons _ _ _ _ (.lz a c) h2) hh hoff
    | sv _ _ _ B o cap g q1 q2 q3 => exact hz ρ w _ (.cons _ _ _ _ (.lz _ cap) h2) hh hoff
noncomputable abbrev cwL (a b c : Int) (v : AV) : List AV := [.i .i64 7, .i .i64 a, .i .i64 b, .i .i64 c, .i .i64 1, .i .i64 0, .i .i64 0, .i .i64 0, v, .i .i64 0]
theorem cwA_con (m N : Nat) (f : Nat → Int) (F : Nat → Nat → CV) (hm : m + 1 ≤ 17592186044416) (hN : m + 1 ≤ N) (h : ∀ i, i < m + 1 → F i 0 = .i .i64 (f i)) (a b c : Int) : Con Try.prog 29 [.agg (cwL a b c (.lr 0 1 0 (m + 1) false))] [some (.rows 3 1 N F)] (.agg (cwL a b c (isv (m + 1) f))) [.keep] :=
  con_d (cwA_vq (cl0 0 0 0) f F (m + 1) N a b c) (by repeat' first | exact trivial | exact clA_con m N f F hm hN h | exact rfl | apply And.intro)
theorem cwB_con (n : Nat) (f : Nat → Int) (hn : n ≤ 17592186044416) (a b c : Int) : Con Try.prog 29 [.agg (cwL a b c (isv n f))] [] (.agg (cwL a b c (.lr 0 1 0 n false))) [.set (.rows 3 1 n fun i _ => .i .i64 (f i))] :=
  con_d (cwB_vq (cl0 0 0 0) f n a b c) (by repeat' first | exact trivial | exact clB_con n f hn | exact rfl | apply And.intro)
theorem cw_pre (a b c : Int) (n : Nat) (f : Nat → Int) (F : Nat → Nat → CV) (h : ∀ i, i < n → F i 0 = .i .i64 (f i)) : VW (.agg (cwL a b c (.sv 1 n (shiftF 0 F)))) (.agg (cwL a b c (isv n f))) :=
  .agg ⟨.refl _, .refl _, .refl _, .refl _, .refl _, .refl _, .refl _, .refl _, isv_of n f F h, .refl _, trivial⟩
theorem maB_con (x : Cl) (n N : Nat) (f : Nat → Int) (F : Nat → Nat → CV) (hn : n ≤ 17592186044416) (hN : n ≤ N) (h : ∀ i, i < n → F i 0 = .i .i64 (f i)) : Con Try.prog 28 [.agg (cwL x.s x.b (x.n + 1) (.lr 0 1 0 n false))] [some (.rows 3 1 N F)] (.b (maB (akC x (kC n f)))) [.keep] := by
  have h0 := (ma_con (akC x (kC n f)) (Nat.le_trans hn (by decide))).pre (pargs' := [.agg (cwL x.s x.b (x.n + 1) (.sv 1 n (shiftF 0 F)))]) ⟨cw_pre _ _ _ n f F h, trivial⟩
  exact h0.borrow (pargs0 := [.agg (cwL x.s x.b (x.n + 1) (.lr 0 1 0 n false))]) (objs := [some (.rows 3 1 N F)]) [0] (frzP 0 (.rows 1 N F) (.tup [.agg (cwL x.s x.b (x.n + 1) (.lr 0 1 0 n false))]) ∧ True) (by kernel_rfl) (by kernel_rfl) (by kernel_rfl) ⟨by simp [frzP, frzsP, cwL]; omega, trivial⟩ (by kernel_rfl) (by kernel_rfl) VR_b
theorem scB_con (a b c : Int) (n N : Nat) (f : Nat → Int) (F : Nat → Nat → CV) (hn : n ≤ 17592186044416) (hN : n ≤ N) (h : ∀ i, i < n → F i 0 = .i .i64 (f i)) : Con Try.prog 22 [.agg (cwL a b c (.lr 0 1 0 n false)), .agg (cwL a b c (isv n f))] [some (.rows 3 1 N F)] (.b true) [.keep] := by
  have h0 := (sce_con ⟨7, a, b, c, 1, 0, 0, 0, n, f, 0⟩ (Nat.le_trans hn (by decide))).pre (pargs' := [.agg (cwL a b c (.sv 1 n (shiftF 0 F))), .agg (cwL a b c (isv n f))]) ⟨cw_pre _ _ _ n f F h, .refl _, trivial⟩
  exact h0.borrow (pargs0 := [.agg (cwL a b c (.lr 0 1 0 n false)), .agg (cwL a b c (isv n f))]) (objs := [some (.rows 3 1 N F)]) [0] (frzP 0 (.rows 1 N F) (.tup [.agg (cwL a b c (.lr 0 1 0 n false)), .agg (cwL a b c (isv n f))]) ∧ True) (by kernel_rfl) (by kernel_rfl) (by kernel_rfl) ⟨by simp [frzP, frzsP, cwL, isv]; omega, trivial⟩ (by kernel_rfl) (by kernel_rfl) VR_b
noncomputable abbrev aoA (n : Nat) : List AV := [.p 0 0, .i .i64 0, .agg (cwL 0 0 0 (.lr 1 1 0 n false))]
theorem fa00 (x : Cl) : Con Try.prog 27 [.p 0 0, .i .i64 0] [some (clO x)] (.i .i64 0) [.keep] := fa_con x 0
theorem aoN_con (n N : Nat) (f : Nat → Int) (F : Nat → Nat → CV) (hn : n ≤ 17592186044416) (hN : n ≤ N) (h : ∀ i, i < n → F i 0 = .i .i64 (f i)) (hv : maB (akC (cl0 0 1 1) (kC n f)) = false) : Con Try.prog 9 (aoA n) [some (clO (cl0 0 1 1)), some (.rows 3 1 N F)] (.tup [.l0, .i .i64 19]) [.keep, .keep] := by
  have ma := maB_con (cl0 0 1 1) n N f F hn hN h
  rw [hv] at ma
  exact con_d (aoN_vq (cl0 0 1 1) 0 F n N false rfl rfl) (by repeat' first | exact trivial | exact ma | exact fa00 _ | exact (⟨by decide, by decide⟩ : rg ((0 : Int) + 1)) | exact rfl | apply And.intro)
theorem aoY_con (m N : Nat) (f : Nat → Int) (F : Nat → Nat → CV) (hn : m + 1 ≤ 17592186044416) (hN : m + 1 ≤ N) (h : ∀ i, i < m + 1 → F i 0 = .i .i64 (f i)) (hv : maB (akC (cl0 0 1 1) (kC (m + 1) f)) = true) : Con Try.prog 9 (aoA (m + 1)) [some (clO (cl0 0 1 1)), some (.rows 3 1 N F)] (.tup [.l 2 0 1 1 25 true, .i .i64 0]) [.set (clO (akS (cl0 0 1 1) 0 (kC (m + 1) f))), .keep, .set (moO (cl0 0 1 1) 3 (m + 1)), .set (.rows 3 1 (m + 1) fun i _ => .i .i64 (f i))] := by
  have ma := maB_con (cl0 0 1 1) (m + 1) N f F hn hN h
  rw [hv] at ma
  have cA := cwA_con m N f F hn hN h 0 1 1
  have cB := cwB_con (m + 1) f hn 0 1 1
  exact con_d (aoY_vq (cl0 0 1 1) 0 f F (m + 1) N true rfl rfl rfl) (by repeat' first | exact trivial | exact ma | exact fa00 _ | exact cA | exact cB | exact (⟨by decide, by decide⟩ : rg ((0 : Int) + 1)) | exact (⟨by decide, by decide⟩ : rg ((8 : Int) + 0)) | exact rfl | apply And.intro)
theorem opW_con (m : Nat) (f : Nat → Int) (hn : m + 1 ≤ 17592186044416) : Con Try.prog 12 [.p 0 0] [some (clO (akS (cl0 0 1 1) 0 (kC (m + 1) f)))] (.tup [.agg (cwL 0 1 1 (.lr 1 1 0 (m + 1) false)), .b true]) [.keep, .set (.rows 3 1 (m + 1) fun i _ => .i .i64 (f i))] :=
  con_d (opW_vq (akS (cl0 0 1 1) 0 (kC (m + 1) f)) rfl) (by repeat' first | exact trivial | exact cwB_con (m + 1) f hn 0 1 1 | exact rfl | apply And.intro)
theorem cvW_con (b : Mb) (h : okB b) : Con Try.prog 35 [.agg (vwL b)] [] (.agg [.i .i64 (b.x 6), .i .i64 (b.x 7), .i .i64 (b.x 8), .lr 0 1 0 b.mn false, isv b.sn b.sf, .lr 1 3 0 b.hn false, svN b.dn b.dA b.dM b.dW]) [.set (.rows 3 1 b.mn fun i _ => .i .i64 (b.mf i)), .set (.rows 73 3 b.hn (qF b.hA b.hM b.hW))] :=
  con_d (cvW_vq (cl0 0 0 0) b) (by repeat' first | exact trivial | exact clB_con _ _ h.1 | exact cl53_con _ _ h.2.1 | exact chB_con _ _ h.2.2.1 | exact cl43_con _ _ _ _ h.2.2.2 | exact rfl | apply And.intro)
def ownM (b : Mb) : Mg := ⟨9, 0, 8, 0, 0, 0, [], [], ⟨1, 0, 1, 1, 0, 0, 0, 0, 0, fun _ => 0, 0⟩, b⟩
theorem tkW_con (x : Cl) (b : Mb) (hx : x.o = true) (xs : x.s = 0) (xp : x.p = 1) (h1 : x.c.sv = 0) (h2 : x.c.bt = 1) (h3 : x.c.sq = 1) (h : okB b) : Con Try.prog 11 [.p 0 0, mgV (ownM b)] [some (clO x)] (.tup [.agg [.i .i64 (b.x 6), .i .i64 (b.x 7), .i .i64 (b.x 8), .lr 1 1 0 b.mn false, isv b.sn b.sf, .lr 2 3 0 b.hn false, svN b.dn b.dA b.dM b.dW], .i .i64 x.f, .b true]) [.set (clO (tkS x (ownM b))), .set (.rows 3 1 b.mn fun i _ => .i .i64 (b.mf i)), .set (.rows 73 3 b.hn (qF b.hA b.hM b.hW))] := by
  have mc := mc_con x (ownM b) (by rw [xs]; exact ⟨by decide, by decide⟩) (by rw [xp]; exact ⟨by decide, by decide⟩)
  rw [show mcB x (ownM b) = true by unfold mcB ownM; rw [xs, xp]; rfl] at mc
  have ia := ia_con x.c (ownM b) x.f x.l
  rw [show iaB x.c (ownM b) = true by unfold iaB ownM; rw [h1, h2, h3]; rfl] at ia
  have cp := cvW_con b h
  refine Con.post (con_d (tkW_vq x (ownM b) true true hx rfl rfl) (by repeat' first | exact trivial | exact mc | exact ia | exact cp | exact nT hx | exact nnT hx | exact rfl | apply And.intro)) (.refl _) ⟨?_, .refl _, .refl _, trivial⟩
  exact OV.cells (l := tkL x (ownM b)) (l' := clL (tkS x (ownM b))) ⟨.refl _, .refl _, .refl _, .refl _, .refl _, .refl _, .refl _, .refl _, .refl _, .refl _, .refl _, .refl _, .refl _, .refl _, .nil _ _, .refl _, .refl _, .refl _, trivial⟩
theorem lp0N_con (m : Nat) (f : Nat → Int) (hn : addN (m + 1) 1 ≤ 1152921504606846976) : LDoes Try.prog (loopAt Try.prog 7 0) 174 1 (mkT [(7, .lr 0 1 0 (addN (m + 1) 1) false), (10, .i .i64 19), (54, .i .i64 (Int.ofNat (addN (m + 1) 1))), (55, .i .i64 0)]) [some (.rows 3 1 (addN (m + 1) 1) (appZ (m + 1) (fun i _ => .i .i64 (f i)) (listF 1 [.i .i64 (-91)] 1)))] (.exit 0) (mkT [(10, .i .i64 19)]) [none] := by
  refine loop_q (fun d : Nat × (Nat → Nat → CV) => ([(7, .lr 0 1 0 (addN (m + 1) 1) false), (10, .i .i64 19), (54, .i .i64 (Int.ofNat (addN (m + 1) 1))), (55, .i .i64 (Int.ofNat d.1))], [some (.rows 3 1 (addN (m + 1) 1) d.2)])) (fun d => (addN (m + 1) 1) - d.1) (fun d => d.1 ≤ (addN (m + 1) 1)) (fun _ => by simp) ?_ (0, _) (Nat.zero_le _)
  rintro ⟨k, G⟩ hk
  dsimp only at hk
  by_cases h : k < (addN (m + 1) 1)
  · have h1 : decide (Int.ofNat k < Int.ofNat (addN (m + 1) 1)) = true := decide_eq_true (by simp; omega)
    have bi : (0 : Int) ≤ Int.ofNat k ∧ Int.ofNat k < (↑(addN (m + 1) 1) : Int) := ⟨by simp, by simp; omega⟩
    have ri : rg (Int.ofNat k + 1) := ⟨by simp <;> omega, by simp <;> omega⟩
    exact rd_nrm (q0NR_lq m G k h1) (by repeat' first | exact trivial | assumption | exact rfl | apply And.intro) (k + 1, _) h (by show (addN (m + 1) 1) - (k + 1) < (addN (m + 1) 1) - k; omega) rfl (.refl _) (.refl _)
  · have h1 : decide (Int.ofNat k < Int.ofNat (addN (m + 1) 1)) = false := decide_eq_false (by simp; omega)
    exact rd_out (q0NE_lq m G k h1) (by repeat' first | exact trivial | assumption | exact rfl | apply And.intro) rfl rfl (.refl _) ⟨noneC_ov _, trivial⟩
theorem lp0_con (x0 x1 : Cl) (f : Nat → Int) (m : Nat) (b : Mb) (hn : addN (m + 1) 1 ≤ 1152921504606846976) : LDoes Try.prog (loopAt Try.prog 7 0) 174 1 (mkT [(0, isv (m + 1) f), (3, .p 0 0), (5, .p 1 0), (7, .lr 2 1 0 (addN (m + 1) 1) false), (9, .l 3 0 1 1 25 true), (10, .i .i64 0), (54, .i .i64 (Int.ofNat (addN (m + 1) 1))), (55, .i .i64 0)]) [some (vwO b), some (clO x1), some (.rows 3 1 (addN (m + 1) 1) (appZ (m + 1) (fun i _ => .i .i64 (f i)) (listF 1 [.i .i64 (-91)] 1))), some (moO x0 4 (m + 1)), some (.rows 3 1 (m + 1) fun i _ => .i .i64 (f i))] (.exit 0) (mkT [(0, isv (m + 1) f), (3, .p 0 0), (5, .p 1 0), (9, .l 3 0 1 1 25 true), (10, .i .i64 0)]) [some (vwO b), some (clO x1), none, some (moO x0 4 (m + 1)), some (.rows 3 1 (m + 1) fun i _ => .i .i64 (f i))] := by
  refine loop_q (fun d : Nat × (Nat → Nat → CV) => ([(0, isv (m + 1) f), (3, .p 0 0), (5, .p 1 0), (7, .lr 2 1 0 (addN (m + 1) 1) false), (9, .l 3 0 1 1 25 true), (10, .i .i64 0), (54, .i .i64 (Int.ofNat (addN (m + 1) 1))), (55, .i .i64 (Int.ofNat d.1))], [some (vwO b), some (clO x1), some (.rows 3 1 (addN (m + 1) 1) d.2), some (moO x0 4 (m + 1)), some (.rows 3 1 (m + 1) fun i _ => .i .i64 (f i))])) (fun d => (addN (m + 1) 1) - d.1) (fun d => d.1 ≤ (addN (m + 1) 1)) (fun _ => by simp) ?_ (0, _) (Nat.zero_le _)
  rintro ⟨k, G⟩ hk
  dsimp only at hk
  by_cases h : k < (addN (m + 1) 1)
  · have h1 : decide (Int.ofNat k < Int.ofNat (addN (m + 1) 1)) = true := decide_eq_true (by simp; omega)
    have bi : (0 : Int) ≤ Int.ofNat k ∧ Int.ofNat k < (↑(addN (m + 1) 1) : Int) := ⟨by simp, by simp; omega⟩
    have ri : rg (Int.ofNat k + 1) := ⟨by simp <;> omega, by simp <;> omega⟩
    exact rd_nrm (q0R_lq x0 x1 f m b G k h1) (by repeat' first | exact trivial | assumption | exact rfl | apply And.intro) (k + 1, _) h (by show (addN (m + 1) 1) - (k + 1) < (addN (m + 1) 1) - k; omega) rfl (.refl _) (.refl _)
  · have h1 : decide (Int.ofNat k < Int.ofNat (addN (m + 1) 1)) = false := decide_eq_false (by simp; omega)
    exact rd_out (q0E_lq x0 x1 f m b G k h1) (by repeat' first | exact trivial | assumption | exact rfl | apply And.intro) rfl rfl (.refl _) ⟨.refl _, .refl _, noneC_ov _, .refl _, .refl _, trivial⟩
theorem lp1_con (x0 x1 : Cl) (f : Nat → Int) (m : Nat) (b : Mb) (hn : m + 1 ≤ 1152921504606846976) : LDoes Try.prog (loopAt Try.prog 7 1) 174 1 (mkT [(0, isv (m + 1) f), (3, .p 0 0), (5, .p 1 0), (9, .l 2 0 1 1 25 true), (84, .i .i64 (Int.ofNat (m + 1))), (85, .i .i64 0)]) [some (vwO b), some (clO x1), some (moO x0 3 (m + 1)), some (.rows 3 1 (m + 1) fun i _ => .i .i64 (f i))] (.exit 2) (mkT [(0, isv (m + 1) f), (3, .p 0 0), (5, .p 1 0)]) [some (vwO b), some (clO x1), none, none] := by
  refine loop_q (fun d : Nat × (Nat → Nat → CV) => ([(0, isv (m + 1) f), (3, .p 0 0), (5, .p 1 0), (9, .l 2 0 1 1 25 true), (84, .i .i64 (Int.ofNat (m + 1))), (85, .i .i64 (Int.ofNat d.1))], [some (vwO b), some (clO x1), some (moO x0 3 (m + 1)), some (.rows 3 1 (m + 1) d.2)])) (fun d => (m + 1) - d.1) (fun d => d.1 ≤ (m + 1)) (fun _ => by simp) ?_ (0, _) (Nat.zero_le _)
  rintro ⟨k, G⟩ hk
  dsimp only at hk
  by_cases h : k < (m + 1)
  · have h1 : decide (Int.ofNat k < Int.ofNat (m + 1)) = true := decide_eq_true (by simp; omega)
    have bi : (0 : Int) ≤ Int.ofNat k ∧ Int.ofNat k < (↑(m + 1) : Int) := ⟨by simp, by simp; omega⟩
    have ri : rg (Int.ofNat k + 1) := ⟨by simp <;> omega, by simp <;> omega⟩
    exact rd_nrm (q1R_lq x0 x1 f m b G k h1) (by repeat' first | exact trivial | assumption | exact rfl | apply And.intro) (k + 1, _) h (by show (m + 1) - (k + 1) < (m + 1) - k; omega) rfl (.refl _) (.refl _)
  · have h1 : decide (Int.ofNat k < Int.ofNat (m + 1)) = false := decide_eq_false (by simp; omega)
    exact rd_out (q1E_lq x0 x1 f m b G k h1) (by repeat' first | exact trivial | assumption | exact rfl | apply And.intro) rfl rfl (.refl _) ⟨.refl _, .refl _, noneC_ov _, noneC_ov _, trivial⟩
theorem lp2_con (x1 : Cl) (f : Nat → Int) (m : Nat) (b : Mb) (hn : m + 1 ≤ 1152921504606846976) : LDoes Try.prog (loopAt Try.prog 7 2) 174 1 (mkT [(0, isv (m + 1) f), (3, .p 0 0), (5, .p 1 0), (13, .p 2 0), (103, .i .i64 (Int.ofNat (m + 1))), (104, .i .i64 0)]) [some (vwO b), some (clO x1), some (.cells 33 10 [.i .i64 0, .i .i64 0, .i .i64 0, .i .i64 0, .i .i64 0, .i .i64 0, .i .i64 0, .i .i64 0, .l0, .i .i64 0] (setAll .e 0 [.i .i64 x1.c.k, .i .i64 x1.c.sv, .i .i64 x1.c.bt, .i .i64 x1.c.sq, .i .i64 x1.c.gn, .i .i64 x1.c.lk, .i .i64 x1.c.md, .i .i64 x1.c.ot, .lr 3 1 0 (m + 1) false, .i .i64 x1.c.d])), some (.rows 3 1 (m + 1) fun i _ => .i .i64 (f i))] (.exit 4) (mkT [(0, isv (m + 1) f), (3, .p 0 0), (5, .p 1 0)]) [some (vwO b), some (clO x1), none, none] := by
  refine loop_q (fun d : Nat × (Nat → Nat → CV) => ([(0, isv (m + 1) f), (3, .p 0 0), (5, .p 1 0), (13, .p 2 0), (103, .i .i64 (Int.ofNat (m + 1))), (104, .i .i64 (Int.ofNat d.1))], [some (vwO b), some (clO x1), some (.cells 33 10 [.i .i64 0, .i .i64 0, .i .i64 0, .i .i64 0, .i .i64 0, .i .i64 0, .i .i64 0, .i .i64 0, .l0, .i .i64 0] (setAll .e 0 [.i .i64 x1.c.k, .i .i64 x1.c.sv, .i .i64 x1.c.bt, .i .i64 x1.c.sq, .i .i64 x1.c.gn, .i .i64 x1.c.lk, .i .i64 x1.c.md, .i .i64 x1.c.ot, .lr 3 1 0 (m + 1) false, .i .i64 x1.c.d])), some (.rows 3 1 (m + 1) d.2)])) (fun d => (m + 1) - d.1) (fun d => d.1 ≤ (m + 1)) (fun _ => by simp) ?_ (0, _) (Nat.zero_le _)
  rintro ⟨k, G⟩ hk
  dsimp only at hk
  by_cases h : k < (m + 1)
  · have h1 : decide (Int.ofNat k < Int.ofNat (m + 1)) = true := decide_eq_true (by simp; omega)
    have bi : (0 : Int) ≤ Int.ofNat k ∧ Int.ofNat k < (↑(m + 1) : Int) := ⟨by simp, by simp; omega⟩
    have ri : rg (Int.ofNat k + 1) := ⟨by simp <;> omega, by simp <;> omega⟩
    exact rd_nrm (q2R_lq x1 f m b G k h1) (by repeat' first | exact trivial | assumption | exact rfl | apply And.intro) (k + 1, _) h (by show (m + 1) - (k + 1) < (m + 1) - k; omega) rfl (.refl _) (.refl _)
  · have h1 : decide (Int.ofNat k < Int.ofNat (m + 1)) = false := decide_eq_false (by simp; omega)
    exact rd_out (q2E_lq x1 f m b G k h1) (by repeat' first | exact trivial | assumption | exact rfl | apply And.intro) rfl rfl (.refl _) ⟨.refl _, .refl _, noneC_ov _, noneC_ov _, trivial⟩
theorem lp4_con (m2 : Mg) (f : Nat → Int) (m : Nat) (b : Mb) (hn : b.mn ≤ 1152921504606846976) : LDoes Try.prog (loopAt Try.prog 7 4) 174 1 (mkT [(0, isv (m + 1) f), (16, mg1 m2), (18, .p 0 0), (19, .p 1 0), (20, .p 2 0), (22, .b true), (144, .i .i64 (Int.ofNat b.mn)), (145, .i .i64 0)]) [some (.cells 47 25 [.i .i64 0, .i .i64 0, .i .i64 0, .i .i64 0, .i .i64 0, .i .i64 0, .s [], .s [], .i .i64 0, .i .i64 0, .i .i64 0, .i .i64 0, .i .i64 0, .i .i64 0, .i .i64 0, .i .i64 0, .l0, .i .i64 0, .i .i64 0, .i .i64 0, .i .i64 0, .l0, .l0, .l0, .l0] (setAll .e 0 [.i .i64 9, .i .i64 0, .i .i64 8, .i .i64 0, .i .i64 0, .i .i64 0, .s [], .s [], .i .i64 1, .i .i64 0, .i .i64 1, .i .i64 1, .i .i64 0, .i .i64 0, .i .i64 0, .i .i64 0, .l0, .i .i64 0, .i .i64 (b.x 6), .i .i64 (b.x 7), .i .i64 (b.x 8), isv b.mn b.mf, isv b.sn b.sf, svN b.hn b.hA b.hM b.hW, svN b.dn b.dA b.dM b.dW])), some (.cells 47 25 [.i .i64 0, .i .i64 0, .i .i64 0, .i .i64 0, .i .i64 0, .i .i64 0, .s [], .s [], .i .i64 0, .i .i64 0, .i .i64 0, .i .i64 0, .i .i64 0, .i .i64 0, .i .i64 0, .i .i64 0, .l0, .i .i64 0, .i .i64 0, .i .i64 0, .i .i64 0, .l0, .l0, .l0, .l0] (setAll .e 0 [.i .i64 9, .i .i64 0, .i .i64 8, .i .i64 0, .i .i64 0, .i .i64 0, .s [], .s [], .i .i64 1, .i .i64 0, .i .i64 1, .i .i64 1, .i .i64 0, .i .i64 0, .i .i64 0, .i .i64 0, isv 0 (fun _ => 0), .i .i64 0, .i .i64 (b.x 6), .i .i64 (b.x 7), .i .i64 (b.x 8), isv b.mn b.mf, isv b.sn b.sf, svN b.hn b.hA b.hM b.hW, svN b.dn b.dA b.dM b.dW])), some (.cells 40 7 [.i .i64 0, .i .i64 0, .i .i64 0, .l0, .l0, .l0, .l0] (setAll .e 0 [.i .i64 (b.x 6), .i .i64 (b.x 7), .i .i64 (b.x 8), .lr 3 1 0 b.mn false, isv b.sn b.sf, .lr 4 3 0 b.hn false, svN b.dn b.dA b.dM b.dW])), some (.rows 3 1 b.mn fun i _ => .i .i64 (b.mf i)), some (.rows 73 3 b.hn (qF (fun _ => -8) b.hM b.hW))] (.exit 8) (mkT [(0, isv (m + 1) f), (16, mg1 m2), (18, .p 0 0), (19, .p 1 0), (22, .b true)]) [some (.cells 47 25 [.i .i64 0, .i .i64 0, .i .i64 0, .i .i64 0, .i .i64 0, .i .i64 0, .s [], .s [], .i .i64 0, .i .i64 0, .i .i64 0, .i .i64 0, .i .i64 0, .i .i64 0, .i .i64 0, .i .i64 0, .l0, .i .i64 0, .i .i64 0, .i .i64 0, .i .i64 0, .l0, .l0, .l0, .l0] (setAll .e 0 [.i .i64 9, .i .i64 0, .i .i64 8, .i .i64 0, .i .i64 0, .i .i64 0, .s [], .s [], .i .i64 1, .i .i64 0, .i .i64 1, .i .i64 1, .i .i64 0, .i .i64 0, .i .i64 0, .i .i64 0, .l0, .i .i64 0, .i .i64 (b.x 6), .i .i64 (b.x 7), .i .i64 (b.x 8), isv b.mn b.mf, isv b.sn b.sf, svN b.hn b.hA b.hM b.hW, svN b.dn b.dA b.dM b.dW])), some (.cells 47 25 [.i .i64 0, .i .i64 0, .i .i64 0, .i .i64 0, .i .i64 0, .i .i64 0, .s [], .s [], .i .i64 0, .i .i64 0, .i .i64 0, .i .i64 0, .i .i64 0, .i .i64 0, .i .i64 0, .i .i64 0, .l0, .i .i64 0, .i .i64 0, .i .i64 0, .i .i64 0, .l0, .l0, .l0, .l0] (setAll .e 0 [.i .i64 9, .i .i64 0, .i .i64 8, .i .i64 0, .i .i64 0, .i .i64 0, .s [], .s [], .i .i64 1, .i .i64 0, .i .i64 1, .i .i64 1, .i .i64 0, .i .i64 0, .i .i64 0, .i .i64 0, isv 0 (fun _ => 0), .i .i64 0, .i .i64 (b.x 6), .i .i64 (b.x 7), .i .i64 (b.x 8), isv b.mn b.mf, isv b.sn b.sf, svN b.hn b.hA b.hM b.hW, svN b.dn b.dA b.dM b.dW])), none, none, none] := by
  refine loop_q (fun d : Nat × (Nat → Nat → CV) => ([(0, isv (m + 1) f), (16, mg1 m2), (18, .p 0 0), (19, .p 1 0), (20, .p 2 0), (22, .b true), (144, .i .i64 (Int.ofNat b.mn)), (145, .i .i64 (Int.ofNat d.1))], [some (.cells 47 25 [.i .i64 0, .i .i64 0, .i .i64 0, .i .i64 0, .i .i64 0, .i .i64 0, .s [], .s [], .i .i64 0, .i .i64 0, .i .i64 0, .i .i64 0, .i .i64 0, .i .i64 0, .i .i64 0, .i .i64 0, .l0, .i .i64 0, .i .i64 0, .i .i64 0, .i .i64 0, .l0, .l0, .l0, .l0] (setAll .e 0 [.i .i64 9, .i .i64 0, .i .i64 8, .i .i64 0, .i .i64 0, .i .i64 0, .s [], .s [], .i .i64 1, .i .i64 0, .i .i64 1, .i .i64 1, .i .i64 0, .i .i64 0, .i .i64 0, .i .i64 0, .l0, .i .i64 0, .i .i64 (b.x 6), .i .i64 (b.x 7), .i .i64 (b.x 8), isv b.mn b.mf, isv b.sn b.sf, svN b.hn b.hA b.hM b.hW, svN b.dn b.dA b.dM b.dW])), some (.cells 47 25 [.i .i64 0, .i .i64 0, .i .i64 0, .i .i64 0, .i .i64 0, .i .i64 0, .s [], .s [], .i .i64 0, .i .i64 0, .i .i64 0, .i .i64 0, .i .i64 0, .i .i64 0, .i .i64 0, .i .i64 0, .l0, .i .i64 0, .i .i64 0, .i .i64 0, .i .i64 0, .l0, .l0, .l0, .l0] (setAll .e 0 [.i .i64 9, .i .i64 0, .i .i64 8, .i .i64 0, .i .i64 0, .i .i64 0, .s [], .s [], .i .i64 1, .i .i64 0, .i .i64 1, .i .i64 1, .i .i64 0, .i .i64 0, .i .i64 0, .i .i64 0, isv 0 (fun _ => 0), .i .i64 0, .i .i64 (b.x 6), .i .i64 (b.x 7), .i .i64 (b.x 8), isv b.mn b.mf, isv b.sn b.sf, svN b.hn b.hA b.hM b.hW, svN b.dn b.dA b.dM b.dW])), some (.cells 40 7 [.i .i64 0, .i .i64 0, .i .i64 0, .l0, .l0, .l0, .l0] (setAll .e 0 [.i .i64 (b.x 6), .i .i64 (b.x 7), .i .i64 (b.x 8), .lr 3 1 0 b.mn false, isv b.sn b.sf, .lr 4 3 0 b.hn false, svN b.dn b.dA b.dM b.dW])), some (.rows 3 1 b.mn d.2), some (.rows 73 3 b.hn (qF (fun _ => -8) b.hM b.hW))])) (fun d => b.mn - d.1) (fun d => d.1 ≤ b.mn) (fun _ => by simp) ?_ (0, _) (Nat.zero_le _)
  rintro ⟨k, G⟩ hk
  dsimp only at hk
  by_cases h : k < b.mn
  · have h1 : decide (Int.ofNat k < Int.ofNat b.mn) = true := decide_eq_true (by simp; omega)
    have bi : (0 : Int) ≤ Int.ofNat k ∧ Int.ofNat k < (↑b.mn : Int) := ⟨by simp, by simp; omega⟩
    have ri : rg (Int.ofNat k + 1) := ⟨by simp <;> omega, by simp <;> omega⟩
    exact rd_nrm (q4R_lq m2 f m b G k h1) (by repeat' first | exact trivial | assumption | exact rfl | apply And.intro) (k + 1, _) h (by show b.mn - (k + 1) < b.mn - k; omega) rfl (.refl _) (.refl _)
  · have h1 : decide (Int.ofNat k < Int.ofNat b.mn) = false := decide_eq_false (by simp; omega)
    exact rd_out (q4E_lq m2 f m b G k h1) (by repeat' first | exact trivial | assumption | exact rfl | apply And.intro) rfl rfl (.refl _) ⟨.refl _, .refl _, noneC_ov _, noneC_ov _, noneC_ov _, trivial⟩
noncomputable def hdF (b : Mb) (k : Nat) : Nat → Nat → CV := qF (fun i => bif Nat.blt i k then -8 else b.hA i) b.hM b.hW
theorem hdF_0 (b : Mb) : OV (some (.rows 73 3 b.hn (qF b.hA b.hM b.hW))) (some (.rows 73 3 b.hn (hdF b 0))) := OV.rowsW fun i j hi hj => CW.of (by
  unfold hdF
  have : Nat.blt i 0 = false := rfl
  match j, hj with
  | 0, _ => show CV.i .i64 (b.hA i) = .i .i64 (bif Nat.blt i 0 then -8 else b.hA i); rw [this]; rfl
  | 1, _ => rfl
  | 2, _ => rfl)
theorem hdF_n (b : Mb) : OV (some (.rows 73 3 b.hn (hdF b b.hn))) (some (.rows 73 3 b.hn (qF (fun _ => -8) b.hM b.hW))) := OV.rowsW fun i j hi hj => CW.of (by
  unfold hdF
  have : Nat.blt i b.hn = true := by rw [Nat.blt_eq]; exact hi
  match j, hj with
  | 0, _ => show CV.i .i64 (bif Nat.blt i b.hn then -8 else b.hA i) = .i .i64 (-8); rw [this]; rfl
  | 1, _ => rfl
  | 2, _ => rfl)
theorem hdF_s (b : Mb) (k : Nat) : OV (some (.rows 73 3 b.hn (setRow (hdF b k) k 0 [.i .i64 (-8)]))) (some (.rows 73 3 b.hn (hdF b (k + 1)))) := OV.rowsW fun i j hi hj => CW.of (by
  match j, hj with
  | 0, _ =>
    show zipCV (Nat.beq i k) (.i .i64 (-8)) (.i .i64 (bif Nat.blt i k then -8 else b.hA i)) = .i .i64 (bif Nat.blt i (k + 1) then -8 else b.hA i)
    by_cases e : i = k
    · subst e
      rw [show Nat.beq i i = true from Nat.beq_refl i, show Nat.blt i (i + 1) = true by rw [Nat.blt_eq]; omega]; rfl
    · rw [show Nat.beq i k = false by rw [Bool.eq_false_iff, ne_eq, Nat.beq_eq]; exact e]
      by_cases h : i < k
      · rw [show Nat.blt i k = true by rw [Nat.blt_eq]; exact h, show Nat.blt i (k + 1) = true by rw [Nat.blt_eq]; omega]; rfl
      · have h1 : Nat.blt i k = false := by rw [Bool.eq_false_iff, ne_eq, Nat.blt_eq]; exact h
        have h2 : Nat.blt i (k + 1) = false := by rw [Bool.eq_false_iff, ne_eq, Nat.blt_eq]; omega
        rw [h1, h2]; rfl
  | 1, _ => rfl
  | 2, _ => rfl)
theorem lp3_con (m2 : Mg) (f : Nat → Int) (m : Nat) (b : Mb) (hn : b.hn ≤ 1152921504606846976) : LDoes Try.prog (loopAt Try.prog 7 3) 174 1 (mkT [(0, isv (m + 1) f), (16, mg1 m2), (18, .p 0 0), (19, .p 1 0), (20, .p 2 0), (22, .b true), (131, .i .i64 (Int.ofNat b.hn)), (132, .i .i64 0)]) [some (.cells 47 25 [.i .i64 0, .i .i64 0, .i .i64 0, .i .i64 0, .i .i64 0, .i .i64 0, .s [], .s [], .i .i64 0, .i .i64 0, .i .i64 0, .i .i64 0, .i .i64 0, .i .i64 0, .i .i64 0, .i .i64 0, .l0, .i .i64 0, .i .i64 0, .i .i64 0, .i .i64 0, .l0, .l0, .l0, .l0] (setAll .e 0 [.i .i64 9, .i .i64 0, .i .i64 8, .i .i64 0, .i .i64 0, .i .i64 0, .s [], .s [], .i .i64 1, .i .i64 0, .i .i64 1, .i .i64 1, .i .i64 0, .i .i64 0, .i .i64 0, .i .i64 0, .l0, .i .i64 0, .i .i64 (b.x 6), .i .i64 (b.x 7), .i .i64 (b.x 8), isv b.mn b.mf, isv b.sn b.sf, svN b.hn b.hA b.hM b.hW, svN b.dn b.dA b.dM b.dW])), some (.cells 47 25 [.i .i64 0, .i .i64 0, .i .i64 0, .i .i64 0, .i .i64 0, .i .i64 0, .s [], .s [], .i .i64 0, .i .i64 0, .i .i64 0, .i .i64 0, .i .i64 0, .i .i64 0, .i .i64 0, .i .i64 0, .l0, .i .i64 0, .i .i64 0, .i .i64 0, .i .i64 0, .l0, .l0, .l0, .l0] (setAll .e 0 [.i .i64 9, .i .i64 0, .i .i64 8, .i .i64 0, .i .i64 0, .i .i64 0, .s [], .s [], .i .i64 1, .i .i64 0, .i .i64 1, .i .i64 1, .i .i64 0, .i .i64 0, .i .i64 0, .i .i64 0, isv 0 (fun _ => 0), .i .i64 0, .i .i64 (b.x 6), .i .i64 (b.x 7), .i .i64 (b.x 8), isv b.mn b.mf, isv b.sn b.sf, svN b.hn b.hA b.hM b.hW, svN b.dn b.dA b.dM b.dW])), some (.cells 40 7 [.i .i64 0, .i .i64 0, .i .i64 0, .l0, .l0, .l0, .l0] (setAll .e 0 [.i .i64 (b.x 6), .i .i64 (b.x 7), .i .i64 (b.x 8), .lr 3 1 0 b.mn false, isv b.sn b.sf, .lr 4 3 0 b.hn false, svN b.dn b.dA b.dM b.dW])), some (.rows 3 1 b.mn fun i _ => .i .i64 (b.mf i)), some (.rows 73 3 b.hn (qF b.hA b.hM b.hW))] (.exit 6) (mkT [(0, isv (m + 1) f), (16, mg1 m2), (18, .p 0 0), (19, .p 1 0), (20, .p 2 0), (22, .b true)]) [some (.cells 47 25 [.i .i64 0, .i .i64 0, .i .i64 0, .i .i64 0, .i .i64 0, .i .i64 0, .s [], .s [], .i .i64 0, .i .i64 0, .i .i64 0, .i .i64 0, .i .i64 0, .i .i64 0, .i .i64 0, .i .i64 0, .l0, .i .i64 0, .i .i64 0, .i .i64 0, .i .i64 0, .l0, .l0, .l0, .l0] (setAll .e 0 [.i .i64 9, .i .i64 0, .i .i64 8, .i .i64 0, .i .i64 0, .i .i64 0, .s [], .s [], .i .i64 1, .i .i64 0, .i .i64 1, .i .i64 1, .i .i64 0, .i .i64 0, .i .i64 0, .i .i64 0, .l0, .i .i64 0, .i .i64 (b.x 6), .i .i64 (b.x 7), .i .i64 (b.x 8), isv b.mn b.mf, isv b.sn b.sf, svN b.hn b.hA b.hM b.hW, svN b.dn b.dA b.dM b.dW])), some (.cells 47 25 [.i .i64 0, .i .i64 0, .i .i64 0, .i .i64 0, .i .i64 0, .i .i64 0, .s [], .s [], .i .i64 0, .i .i64 0, .i .i64 0, .i .i64 0, .i .i64 0, .i .i64 0, .i .i64 0, .i .i64 0, .l0, .i .i64 0, .i .i64 0, .i .i64 0, .i .i64 0, .l0, .l0, .l0, .l0] (setAll .e 0 [.i .i64 9, .i .i64 0, .i .i64 8, .i .i64 0, .i .i64 0, .i .i64 0, .s [], .s [], .i .i64 1, .i .i64 0, .i .i64 1, .i .i64 1, .i .i64 0, .i .i64 0, .i .i64 0, .i .i64 0, isv 0 (fun _ => 0), .i .i64 0, .i .i64 (b.x 6), .i .i64 (b.x 7), .i .i64 (b.x 8), isv b.mn b.mf, isv b.sn b.sf, svN b.hn b.hA b.hM b.hW, svN b.dn b.dA b.dM b.dW])), some (.cells 40 7 [.i .i64 0, .i .i64 0, .i .i64 0, .l0, .l0, .l0, .l0] (setAll .e 0 [.i .i64 (b.x 6), .i .i64 (b.x 7), .i .i64 (b.x 8), .lr 3 1 0 b.mn false, isv b.sn b.sf, .lr 4 3 0 b.hn false, svN b.dn b.dA b.dM b.dW])), some (.rows 3 1 b.mn fun i _ => .i .i64 (b.mf i)), some (.rows 73 3 b.hn (qF (fun _ => -8) b.hM b.hW))] := by
  refine LDoes.ovl (objs := [some (.cells 47 25 [.i .i64 0, .i .i64 0, .i .i64 0, .i .i64 0, .i .i64 0, .i .i64 0, .s [], .s [], .i .i64 0, .i .i64 0, .i .i64 0, .i .i64 0, .i .i64 0, .i .i64 0, .i .i64 0, .i .i64 0, .l0, .i .i64 0, .i .i64 0, .i .i64 0, .i .i64 0, .l0, .l0, .l0, .l0] (setAll .e 0 [.i .i64 9, .i .i64 0, .i .i64 8, .i .i64 0, .i .i64 0, .i .i64 0, .s [], .s [], .i .i64 1, .i .i64 0, .i .i64 1, .i .i64 1, .i .i64 0, .i .i64 0, .i .i64 0, .i .i64 0, .l0, .i .i64 0, .i .i64 (b.x 6), .i .i64 (b.x 7), .i .i64 (b.x 8), isv b.mn b.mf, isv b.sn b.sf, svN b.hn b.hA b.hM b.hW, svN b.dn b.dA b.dM b.dW])), some (.cells 47 25 [.i .i64 0, .i .i64 0, .i .i64 0, .i .i64 0, .i .i64 0, .i .i64 0, .s [], .s [], .i .i64 0, .i .i64 0, .i .i64 0, .i .i64 0, .i .i64 0, .i .i64 0, .i .i64 0, .i .i64 0, .l0, .i .i64 0, .i .i64 0, .i .i64 0, .i .i64 0, .l0, .l0, .l0, .l0] (setAll .e 0 [.i .i64 9, .i .i64 0, .i .i64 8, .i .i64 0, .i .i64 0, .i .i64 0, .s [], .s [], .i .i64 1, .i .i64 0, .i .i64 1, .i .i64 1, .i .i64 0, .i .i64 0, .i .i64 0, .i .i64 0, isv 0 (fun _ => 0), .i .i64 0, .i .i64 (b.x 6), .i .i64 (b.x 7), .i .i64 (b.x 8), isv b.mn b.mf, isv b.sn b.sf, svN b.hn b.hA b.hM b.hW, svN b.dn b.dA b.dM b.dW])), some (.cells 40 7 [.i .i64 0, .i .i64 0, .i .i64 0, .l0, .l0, .l0, .l0] (setAll .e 0 [.i .i64 (b.x 6), .i .i64 (b.x 7), .i .i64 (b.x 8), .lr 3 1 0 b.mn false, isv b.sn b.sf, .lr 4 3 0 b.hn false, svN b.dn b.dA b.dM b.dW])), some (.rows 3 1 b.mn fun i _ => .i .i64 (b.mf i)), some (.rows 73 3 b.hn (hdF b 0))]) ?_ ⟨.refl _, .refl _, .refl _, .refl _, hdF_0 b, trivial⟩
  refine loop_q (fun k : Nat => ([(0, isv (m + 1) f), (16, mg1 m2), (18, .p 0 0), (19, .p 1 0), (20, .p 2 0), (22, .b true), (131, .i .i64 (Int.ofNat b.hn)), (132, .i .i64 (Int.ofNat k))], [some (.cells 47 25 [.i .i64 0, .i .i64 0, .i .i64 0, .i .i64 0, .i .i64 0, .i .i64 0, .s [], .s [], .i .i64 0, .i .i64 0, .i .i64 0, .i .i64 0, .i .i64 0, .i .i64 0, .i .i64 0, .i .i64 0, .l0, .i .i64 0, .i .i64 0, .i .i64 0, .i .i64 0, .l0, .l0, .l0, .l0] (setAll .e 0 [.i .i64 9, .i .i64 0, .i .i64 8, .i .i64 0, .i .i64 0, .i .i64 0, .s [], .s [], .i .i64 1, .i .i64 0, .i .i64 1, .i .i64 1, .i .i64 0, .i .i64 0, .i .i64 0, .i .i64 0, .l0, .i .i64 0, .i .i64 (b.x 6), .i .i64 (b.x 7), .i .i64 (b.x 8), isv b.mn b.mf, isv b.sn b.sf, svN b.hn b.hA b.hM b.hW, svN b.dn b.dA b.dM b.dW])), some (.cells 47 25 [.i .i64 0, .i .i64 0, .i .i64 0, .i .i64 0, .i .i64 0, .i .i64 0, .s [], .s [], .i .i64 0, .i .i64 0, .i .i64 0, .i .i64 0, .i .i64 0, .i .i64 0, .i .i64 0, .i .i64 0, .l0, .i .i64 0, .i .i64 0, .i .i64 0, .i .i64 0, .l0, .l0, .l0, .l0] (setAll .e 0 [.i .i64 9, .i .i64 0, .i .i64 8, .i .i64 0, .i .i64 0, .i .i64 0, .s [], .s [], .i .i64 1, .i .i64 0, .i .i64 1, .i .i64 1, .i .i64 0, .i .i64 0, .i .i64 0, .i .i64 0, isv 0 (fun _ => 0), .i .i64 0, .i .i64 (b.x 6), .i .i64 (b.x 7), .i .i64 (b.x 8), isv b.mn b.mf, isv b.sn b.sf, svN b.hn b.hA b.hM b.hW, svN b.dn b.dA b.dM b.dW])), some (.cells 40 7 [.i .i64 0, .i .i64 0, .i .i64 0, .l0, .l0, .l0, .l0] (setAll .e 0 [.i .i64 (b.x 6), .i .i64 (b.x 7), .i .i64 (b.x 8), .lr 3 1 0 b.mn false, isv b.sn b.sf, .lr 4 3 0 b.hn false, svN b.dn b.dA b.dM b.dW])), some (.rows 3 1 b.mn fun i _ => .i .i64 (b.mf i)), some (.rows 73 3 b.hn (hdF b k))])) (fun k => b.hn - k) (fun k => k ≤ b.hn) (fun _ => by simp) ?_ 0 (Nat.zero_le _)
  intro k hk
  by_cases h : k < b.hn
  · have h1 : decide (Int.ofNat k < Int.ofNat b.hn) = true := decide_eq_true (by simp; omega)
    have bi : (0 : Int) ≤ Int.ofNat k ∧ Int.ofNat k < (↑(b.hn) : Int) := ⟨by simp, by simp; omega⟩
    have ri : rg (Int.ofNat k + 1) := ⟨by simp <;> omega, by simp <;> omega⟩
    exact rd_nrm (q3R_lq m2 f m b (hdF b k) k h1) (by repeat' first | exact trivial | assumption | exact rfl | apply And.intro) (k + 1) h (by show b.hn - (k + 1) < b.hn - k; omega) rfl (.refl _) ⟨.refl _, .refl _, .refl _, .refl _, hdF_s b k, trivial⟩
  · have h1 : decide (Int.ofNat k < Int.ofNat b.hn) = false := decide_eq_false (by simp; omega)
    have e : k = b.hn := by omega
    subst e
    exact rd_out (q3E_lq m2 f m b (hdF b b.hn) b.hn h1) (by repeat' first | exact trivial | assumption | exact rfl | apply And.intro) rfl rfl (.refl _) ⟨.refl _, .refl _, .refl _, .refl _, hdF_n b, trivial⟩
theorem full_at (m : Nat) (f : Nat → Int) : ∀ i, i < m + 1 → appZ (m + 1) (fun i _ => .i .i64 (f i)) (listF 1 [.i .i64 (-91)] 1) i 0 = .i .i64 (f i) := fun i hi => by
  rw [show appZ (m + 1) (fun i _ => CV.i .i64 (f i)) (listF 1 [.i .i64 (-91)] 1) i 0 = .i .i64 (if i < m + 1 then f i else -91) from appZ_i (k := .i64) rfl rfl, if_pos hi]
theorem nw011 : Con Try.prog 8 [.i .i64 0, .i .i64 1, .i .i64 1] [] (.tup [.p 0 0, .i .i64 0]) [.set (clO (cl0 0 1 1))] := new1_con 0 1 1 rfl
theorem law7Z (f : Nat → Int) (b : Mb) : Con Try.prog 7 [isv 0 f, .agg (vwL b)] [] (.b true) [] := by
  have nw := nw011
  have ao : Con Try.prog 9 (aoA 0) [some (clO (cl0 0 1 1)), some (.rows 3 1 1 (listF 1 [.i .i64 (-91)] 1))] (.tup [.l0, .i .i64 19]) [.keep, .keep] := aoN_con 0 1 f (listF 1 [.i .i64 (-91)] 1) (Nat.zero_le _) (Nat.zero_le _) (fun i hi => absurd hi (Nat.not_lt_zero i)) (by kernel_rfl)
  exact con_d (wZ_vq (cl0 0 1 1) (fun i _ => .i .i64 (f i)) b) (by repeat' first | exact trivial | exact awake_con | exact nw | exact ao | exact .inl rfl | decide | exact (⟨by decide, by decide⟩ : rg (1 : Int)) | exact rfl | apply And.intro)
theorem own_bs (m : Nat) (hn : m + 1 ≤ 17592186044416) : 0 + (m + 1) ≤ 140737488355328 ∧ (3 * (0 + (m + 1)) + 1536) * 8 ≤ 562949953421312 ∧ 0 + (m + 1) ≤ m + 1 ∧ m + 1 + 1 ≤ 140737488355328 ∧ (3 * (m + 1 + 1) + 1536) * 8 ≤ 562949953421312 := by omega
theorem own_h (m : Nat) (f : Nat → Int) : decide ((bif Nat.blt (m + 1) (m + 1) then f (m + 1) else (-91)) = (-91)) = true := by
  have hblt : Nat.blt (m + 1) (m + 1) = false := by rw [Bool.eq_false_iff, ne_eq, Nat.blt_eq]; omega
  rw [hblt]; rfl
theorem own_N (m : Nat) (hn : m + 1 ≤ 17592186044416) : addN (m + 1) 1 ≤ 1152921504606846976 ∧ m + 1 ≤ addN (m + 1) 1 ∧ m + 1 < addN (m + 1) 1 ∧ (0 : Int) ≤ Int.ofNat (m + 1) ∧ Int.ofNat (m + 1) < (↑(addN (m + 1) 1) : Int) := by
  rw [addN_eq]
  refine ⟨by omega, by omega, by omega, (by show (0 : Int) ≤ ((m + 1 : Nat) : Int); omega), ?_⟩
  show ((m + 1 : Nat) : Int) < ((m + 1 + 1 : Nat) : Int)
  omega
theorem law7N (m : Nat) (hn : m + 1 ≤ 17592186044416) (f : Nat → Int) (b : Mb) (hv : maB (akC (cl0 0 1 1) (kC (m + 1) f)) = false) : Con Try.prog 7 [isv (m + 1) f, .agg (vwL b)] [] (.b true) [] := by
  obtain ⟨g1, g2, g3, g4, g5⟩ := own_bs m hn
  have h := own_h m f
  obtain ⟨hN, hle, hlt, hz, hlz⟩ := own_N m hn
  have hh := nT h
  have nw := nw011
  have lp0N := lp0N_con m f hN
  have ao := aoN_con (m + 1) (addN (m + 1) 1) f (appZ (m + 1) (fun i _ => .i .i64 (f i)) (listF 1 [.i .i64 (-91)] 1)) hn hle (full_at m f) hv
  exact con_d (wN_vq (cl0 0 1 1) f m b h) ⟨awake_con, trivial, nw, ⟨trivial, trivial, g1, g2⟩, ⟨g3, trivial, g4, g5⟩, ⟨trivial, hz, Nat.zero_le _, hle, .inl rfl⟩, ao, ⟨hz, hlz⟩, hlt, hh, lp0N, rfl⟩
noncomputable abbrev ownL (b : Mb) : List AV := [.i .i64 9, .i .i64 0, .i .i64 8, .i .i64 0, .i .i64 0, .i .i64 0, .s [], .s [], .i .i64 1, .i .i64 0, .i .i64 1, .i .i64 1, .i .i64 0, .i .i64 0, .i .i64 0, .i .i64 0, .l0, .i .i64 0, .i .i64 (b.x 6), .i .i64 (b.x 7), .i .i64 (b.x 8), isv b.mn b.mf, isv b.sn b.sf, svN b.hn b.hA b.hM b.hW, svN b.dn b.dA b.dM b.dW]
theorem own_pre (b : Mb) : VW (.agg (ownL b)) (mgV (ownM b)) :=
  .agg ⟨.refl _, .refl _, .refl _, .refl _, .refl _, .refl _, .refl _, .refl _, .refl _, .refl _, .refl _, .refl _, .refl _, .refl _, .refl _, .refl _, .nil _ _, .refl _, .refl _, .refl _, .refl _, .refl _, .refl _, .refl _, .refl _, trivial⟩
theorem law7Y (m : Nat) (hn : m + 1 ≤ 17592186044416) (f : Nat → Int) (b : Mb) (hb : okB b) (hv : maB (akC (cl0 0 1 1) (kC (m + 1) f)) = true) : Con Try.prog 7 [isv (m + 1) f, .agg (vwL b)] [] (.b true) [] := by
  obtain ⟨g1, g2, g3, g4, g5⟩ := own_bs m hn
  have h := own_h m f
  obtain ⟨hN, hle, hlt, hz, hlz⟩ := own_N m hn
  have hh := nT h
  have nw := nw011
  have hm : m + 1 ≤ 1152921504606846976 := Nat.le_trans hn (by decide)
  have lp0 := lp0_con (cl0 0 1 1) (akS (cl0 0 1 1) 0 (kC (m + 1) f)) f m b hN
  have lp1 := lp1_con (cl0 0 1 1) (akS (cl0 0 1 1) 0 (kC (m + 1) f)) f m b hm
  have lp2 := lp2_con (akS (cl0 0 1 1) 0 (kC (m + 1) f)) f m b hm
  have lp3 := lp3_con (rqM (tdS (akS (cl0 0 1 1) 0 (kC (m + 1) f)) 10)) f m b (Nat.le_trans hb.2.2.1 (by decide))
  have lp4 := lp4_con (rqM (tdS (akS (cl0 0 1 1) 0 (kC (m + 1) f)) 10)) f m b (Nat.le_trans hb.1 (by decide))
  have ao := aoY_con m (addN (m + 1) 1) f (appZ (m + 1) (fun i _ => .i .i64 (f i)) (listF 1 [.i .i64 (-91)] 1)) hn hle (full_at m f) hv
  have sc1 := scB_con 0 1 1 (m + 1) (m + 1) f (fun i _ => .i .i64 (f i)) hn (Nat.le_refl _) (fun _ _ => rfl)
  have op := opW_con m f hn
  have td := tdY_con (akS (cl0 0 1 1) 0 (kC (m + 1) f)) 10 rfl (⟨by decide, by decide⟩ : rg ((0 : Int) + 6)) (⟨by decide, by decide⟩ : rg ((0 : Int) + 1)) (⟨by decide, by decide⟩ : rg ((8 : Int) + 0)) hn
  have cp := (mcp_con (ownM b) (Nat.zero_le _) hb).pre (pargs' := [.agg (ownL b)]) ⟨own_pre b, trivial⟩
  have tk := tkW_con (tdS (akS (cl0 0 1 1) 0 (kC (m + 1) f)) 10) b rfl rfl rfl rfl rfl rfl hb
  have tk := tk.pre (pargs' := [.p 0 0, .agg (ownL b)]) ⟨.refl _, own_pre b, trivial⟩
  have sc2 := sce_con ⟨7, 0, 1, 1, 1, 0, 0, 0, m + 1, f, 0⟩ hm
  have sm := (sm_con (ownM b) (Nat.zero_le _) hb).pre (pargs' := [.agg (ownL b), mgV (ownM b)]) ⟨own_pre b, .refl _, trivial⟩
  have b0 : (0 : Int) ≤ (0 : Int) ∧ (0 : Int) < (1 : Int) := ⟨by decide, by decide⟩
  have r8 : rg (8 : Int) := ⟨by decide, by decide⟩
  refine con_d (wY_vq (cl0 0 1 1) (akS (cl0 0 1 1) 0 (kC (m + 1) f)) (tdS (akS (cl0 0 1 1) 0 (kC (m + 1) f)) 10) (tkS (tdS (akS (cl0 0 1 1) 0 (kC (m + 1) f)) 10) (ownM b)) (rqM (tdS (akS (cl0 0 1 1) 0 (kC (m + 1) f)) 10)) f m 0 b h) ⟨awake_con, trivial, nw, ⟨trivial, trivial, g1, g2⟩, ⟨g3, trivial, g4, g5⟩, ⟨trivial, hz, Nat.zero_le _, hle, .inl rfl⟩, ao, ⟨hz, hlz⟩, hlt, hh, lp0, trivial, sc1, trivial, trivial, trivial, lp1, op, trivial, lp2, td, r8, trivial, cp, tk, trivial, lp3, trivial, trivial, lp4, b0, trivial, trivial, sc2, sm, rfl⟩
theorem law7_con (n : Nat) (hn : n ≤ 17592186044416) (f : Nat → Int) (b : Mb) (hb : okB b) : Con Try.prog 7 [isv n f, .agg (vwL b)] [] (.b true) [] := by
  cases n with
  | zero => exact law7Z f b
  | succ m =>
    cases hv : maB (akC (cl0 0 1 1) (kC (m + 1) f)) with
    | false => exact law7N m hn f b hv
    | true => exact law7Y m hn f b hb hv
end Go.Proofs.Ck
