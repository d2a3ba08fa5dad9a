/- Runs over unknown values, told by the kernel: part GD. -/
import Derived.Test.YtgggnjjhfkijfaaGC
set_option linter.unusedSimpArgs false
set_option linter.unusedVariables false
set_option maxRecDepth 20000
namespace Go.Proofs.Ck
open Go Go.Sim Go.Proofs Go.Proofs.Lk Go.Proofs.Sv Go.Proofs.Ytgggnjjhfkijfaa
theorem sm_vq (m : Mg) (h : (decide (m.ab = m.ab) && (natsEq m.av m.av && true)) = true) : VD Try.prog 25 [mgV m, mgV m] [] (Orc.cal [] (.b true) [] (oc 5 (Orc.cal [] (.b true)
  [] (oc 3 (Orc.t (Orc.t (Orc.t (Orc.t (Orc.t (Orc.t (Orc.t (Orc.t (Orc.t (Orc.t (Orc.t (Orc.t (Orc.t (Orc.t (Orc.t (Orc.t (Orc.t (Orc.t (Orc.t (Orc.t (Orc.t (Orc.t (Orc.t
  (Orc.t (Orc.t (Orc.t (Orc.t (Orc.t (Orc.t (Orc.t (Orc.t (Orc.t (Orc.t (Orc.t (Orc.t (Orc.t Orc.z)))))))))))))))))))))))))))))))))))))))) (.b (natsEq (Mg.st m) (Mg.st m))) []
  [] 2 (fun Lf => True ∧ True ∧ Con Try.prog 22 [.agg [.i .i64 (Cm.k (Mg.c m)), .i .i64 (Cm.sv (Mg.c m)), .i .i64 (Cm.bt (Mg.c m)), .i .i64 (Cm.sq (Mg.c m)), .i .i64 (Cm.gn
  (Mg.c m)), .i .i64 (Cm.lk (Mg.c m)), .i .i64 (Cm.md (Mg.c m)), .i .i64 (Cm.ot (Mg.c m)), isv (Cm.mn (Mg.c m)) (Cm.mf (Mg.c m)), .i .i64 (Cm.d (Mg.c m))], .agg [.i .i64 (Cm.k
  (Mg.c m)), .i .i64 (Cm.sv (Mg.c m)), .i .i64 (Cm.bt (Mg.c m)), .i .i64 (Cm.sq (Mg.c m)), .i .i64 (Cm.gn (Mg.c m)), .i .i64 (Cm.lk (Mg.c m)), .i .i64 (Cm.md (Mg.c m)), .i .i64
  (Cm.ot (Mg.c m)), isv (Cm.mn (Mg.c m)) (Cm.mf (Mg.c m)), .i .i64 (Cm.d (Mg.c m))]] [] (.b true) [] ∧ True ∧ True ∧ True ∧ Con Try.prog 19 [.agg [.i .i64 (Mb.x (Mg.v m) 6), .i
  .i64 (Mb.x (Mg.v m) 7), .i .i64 (Mb.x (Mg.v m) 8), isv (Mb.mn (Mg.v m)) (Mb.mf (Mg.v m)), isv (Mb.sn (Mg.v m)) (Mb.sf (Mg.v m)), svN (Mb.hn (Mg.v m)) (Mb.hA (Mg.v m)) (Mb.hM
  (Mg.v m)) (Mb.hW (Mg.v m)), svN (Mb.dn (Mg.v m)) (Mb.dA (Mg.v m)) (Mb.dM (Mg.v m)) (Mb.dW (Mg.v m))], .agg [.i .i64 (Mb.x (Mg.v m) 6), .i .i64 (Mb.x (Mg.v m) 7), .i .i64
  (Mb.x (Mg.v m) 8), isv (Mb.mn (Mg.v m)) (Mb.mf (Mg.v m)), isv (Mb.sn (Mg.v m)) (Mb.sf (Mg.v m)), svN (Mb.hn (Mg.v m)) (Mb.hA (Mg.v m)) (Mb.hM (Mg.v m)) (Mb.hW (Mg.v m)), svN
  (Mb.dn (Mg.v m)) (Mb.dA (Mg.v m)) (Mb.dM (Mg.v m)) (Mb.dW (Mg.v m))]] [] (.b true) [] ∧ True ∧ True ∧ True ∧ decide (Mg.k m = Mg.k m) = true ∧ True ∧ decide (Mg.k m = Mg.k m)
  = true ∧ decide (Mg.k m = Mg.k m) = true ∧ True ∧ decide (Mg.k m = Mg.k m) = true ∧ decide (Mg.k m = Mg.k m) = true ∧ decide (Mg.k m = Mg.k m) = true ∧ decide (Mg.fr m =
  Mg.fr m) = true ∧ True ∧ decide (Mg.fr m = Mg.fr m) = true ∧ decide (Mg.fr m = Mg.fr m) = true ∧ True ∧ decide (Mg.fr m = Mg.fr m) = true ∧ decide (Mg.fr m = Mg.fr m) = true
  ∧ decide (Mg.fr m = Mg.fr m) = true ∧ decide (Mg.to m = Mg.to m) = true ∧ True ∧ decide (Mg.to m = Mg.to m) = true ∧ decide (Mg.to m = Mg.to m) = true ∧ True ∧ decide (Mg.to
  m = Mg.to m) = true ∧ decide (Mg.to m = Mg.to m) = true ∧ decide (Mg.to m = Mg.to m) = true ∧ decide (Mg.bl m = Mg.bl m) = true ∧ True ∧ decide (Mg.bl m = Mg.bl m) = true ∧
  decide (Mg.bl m = Mg.bl m) = true ∧ True ∧ decide (Mg.bl m = Mg.bl m) = true ∧ decide (Mg.bl m = Mg.bl m) = true ∧ decide (Mg.bl m = Mg.bl m) = true ∧ decide (Mg.sl m = Mg.sl
  m) = true ∧ True ∧ decide (Mg.sl m = Mg.sl m) = true ∧ decide (Mg.sl m = Mg.sl m) = true ∧ True ∧ decide (Mg.sl m = Mg.sl m) = true ∧ decide (Mg.sl m = Mg.sl m) = true ∧ True
  ∧ decide (Mg.sl m = Mg.sl m) = true ∧ (decide (Mg.ab m = Mg.ab m) && (natsEq (Mg.av m) (Mg.av m) && true)) = true ∧ True ∧ (decide (Mg.ab m = Mg.ab m) && (natsEq (Mg.av m)
  (Mg.av m) && true)) = true ∧ (decide (Mg.ab m = Mg.ab m) && (natsEq (Mg.av m) (Mg.av m) && true)) = true ∧ True ∧ (decide (Mg.ab m = Mg.ab m) && (natsEq (Mg.av m) (Mg.av m)
  && true)) = true ∧ (decide (Mg.ab m = Mg.ab m) && (natsEq (Mg.av m) (Mg.av m) && true)) = true ∧ (decide (Mg.ab m = Mg.ab m) && (natsEq (Mg.av m) (Mg.av m) && true)) = true ∧
  Lf) := by unfold VD VQ; kernel_rfl
theorem nats_self (l : List Nat) : natsEq l l = true := (natsEq_iff l l).2 rfl
theorem sm_con (m : Mg) (hm : m.c.mn ≤ 17592186044416) (hv : okB m.v) : Con Try.prog 25 [mgV m, mgV m] [] (.b true) [] := by
  have h : (decide (m.ab = m.ab) && (natsEq m.av m.av && true)) = true := by rw [nats_self, decide_eq_true rfl]; rfl
  have sc := sce_con m.c (Nat.le_trans hm (by decide))
  have sv := sv_con m.v hv
  have d : ∀ z : Int, decide (z = z) = true := fun z => decide_eq_true rfl
  have := con_d (sm_vq m h) (by repeat' first | exact trivial | assumption | exact d _ | exact nT (d _) | exact nnT (d _) | exact nT h | exact nnT h | exact rfl | apply And.intro)
  rwa [nats_self] at this
end Go.Proofs.Ck
