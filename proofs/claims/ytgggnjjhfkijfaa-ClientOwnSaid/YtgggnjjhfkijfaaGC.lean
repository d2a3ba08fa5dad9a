/- Runs over unknown values, told by the kernel: part GC. -/
import Derived.Test.YtgggnjjhfkijfaaGB
set_option linter.unusedSimpArgs false
set_option linter.unusedVariables false
set_option maxRecDepth 20000
namespace Go.Proofs.Ck
open Go Go.Sim Go.Proofs Go.Proofs.Lk Go.Proofs.Sv Go.Proofs.Ytgggnjjhfkijfaa
theorem sce_con (c : Cm) (h : c.mn ≤ 1152921504606846976) : Con Try.prog 22 [cmV c, cmV c] [] (.b true) [] := by
  have := rscm_con c.k c.sv c.bt c.sq c.gn c.lk c.md c.ot c.d c.mn h c.mf c
  rw [eqN_self] at this
  simpa [cmV, cmL] using this
noncomputable def mgW (m : Mg) (a : AV) : List AV := [.i .i64 m.k, .i .i64 m.fr, .i .i64 m.to, .i .i64 m.bl, .i .i64 m.sl, .i .i64 m.ab, .s m.av, .s m.st,
  .i .i64 m.c.k, .i .i64 m.c.sv, .i .i64 m.c.bt, .i .i64 m.c.sq, .i .i64 m.c.gn, .i .i64 m.c.lk, .i .i64 m.c.md, .i .i64 m.c.ot, a, .i .i64 m.c.d,
  .i .i64 (m.v.x 6), .i .i64 (m.v.x 7), .i .i64 (m.v.x 8), isv m.v.mn m.v.mf, isv m.v.sn m.v.sf, svN m.v.hn m.v.hA m.v.hM m.v.hW, svN m.v.dn m.v.dA m.v.dM m.v.dW]
def cpP (m : Mg) : Prop := frzP 2 (.rows 1 m.c.mn fun i _ => .i .i64 (m.c.mf i)) (.agg (mgW m (.lr 2 1 0 m.c.mn false))) ∧ True
theorem cp0_fq (m : Mg) : VF Try.prog 17 [mgV m] [] (Orc.lop [0, 1] [1, 2, 3, 4] 2 (XO.exit 0) [(1, .p 0 0), (2, .p 1 0), (3, .lr 2 1 0 (Cm.mn (Mg.c m)) false)] [some (mgO m),
  some mgZ, some (AObj.rows 3 1 (Cm.mn (Mg.c m)) fun i x => CV.i .i64 (Cm.mf (Mg.c m) i))] (Orc.cal [] (.agg [.i .i64 (Mb.x (Mg.v m) 6), .i .i64 (Mb.x (Mg.v m) 7), .i .i64
  (Mb.x (Mg.v m) 8), isv (Mb.mn (Mg.v m)) (Mb.mf (Mg.v m)), isv (Mb.sn (Mg.v m)) (Mb.sf (Mg.v m)), svN (Mb.hn (Mg.v m)) (Mb.hA (Mg.v m)) (Mb.hM (Mg.v m)) (Mb.hW (Mg.v m)), svN
  (Mb.dn (Mg.v m)) (Mb.dA (Mg.v m)) (Mb.dM (Mg.v m)) (Mb.dW (Mg.v m))]) [] Orc.z)) (.agg (mgW m (.sv 1 m.c.mn (shiftF 0 fun i _ => .i .i64 (m.c.mf i))))) [] [2] [] (cpP m) 3
  (fun Lf => LDoes Try.prog (loopAt Try.prog 17 0) 30 2 (mkT [(1, .p 0 0), (2, .p 1 0), (3, .l0), (4, .i .i64 0)]) [some (mgO m), some mgZ] (XO.exit 0) (mkT [(1, .p 0 0), (2,
  .p 1 0), (3, .lr 2 1 0 (Cm.mn (Mg.c m)) false)]) [some (mgO m), some mgZ, some (AObj.rows 3 1 (Cm.mn (Mg.c m)) fun i x => CV.i .i64 (Cm.mf (Mg.c m) i))] ∧ True ∧ True ∧ True
  ∧ Con Try.prog 38 [.agg [.i .i64 (Mb.x (Mg.v m) 6), .i .i64 (Mb.x (Mg.v m) 7), .i .i64 (Mb.x (Mg.v m) 8), isv (Mb.mn (Mg.v m)) (Mb.mf (Mg.v m)), isv (Mb.sn (Mg.v m)) (Mb.sf
  (Mg.v m)), svN (Mb.hn (Mg.v m)) (Mb.hA (Mg.v m)) (Mb.hM (Mg.v m)) (Mb.hW (Mg.v m)), svN (Mb.dn (Mg.v m)) (Mb.dA (Mg.v m)) (Mb.dM (Mg.v m)) (Mb.dW (Mg.v m))]] [] (.agg [.i
  .i64 (Mb.x (Mg.v m) 6), .i .i64 (Mb.x (Mg.v m) 7), .i .i64 (Mb.x (Mg.v m) 8), isv (Mb.mn (Mg.v m)) (Mb.mf (Mg.v m)), isv (Mb.sn (Mg.v m)) (Mb.sf (Mg.v m)), svN (Mb.hn (Mg.v
  m)) (Mb.hA (Mg.v m)) (Mb.hM (Mg.v m)) (Mb.hW (Mg.v m)), svN (Mb.dn (Mg.v m)) (Mb.dA (Mg.v m)) (Mb.dM (Mg.v m)) (Mb.dW (Mg.v m))]) [] ∧ True ∧ Lf) := by unfold VF; kernel_rfl
theorem cpR_lq (m : Mg) (F : Nat → Nat → CV) (k i : Nat) (h1 : decide (Int.ofNat i < Int.ofNat m.c.mn) = true) : LD Try.prog (loopAt Try.prog 17 0) 30 2 [(1, .p 0 0), (2, .p 1
  0), (3, .lr 2 1 0 k false), (4, .i .i64 (Int.ofNat i))] [some (mgO m), some mgZ, some (.rows 3 1 k F)] (Orc.t Orc.z) .nrm [0, 1, 4] [(1, .p 0 0), (2, .p 1 0), (3, .lr 2 1 0
  (addN k 1) false), (4, .i .i64 (Int.ofNat i + 1))] [some (mgO m), some mgZ, some (.rows 3 1 (addN k 1) (appZ k F (listF 1 [.i .i64 (m.c.mf i)] 1)))] 5 (fun Lf => True ∧ True
  ∧ decide (Int.ofNat i < Int.ofNat (Cm.mn (Mg.c m))) = true ∧ True ∧ True ∧ (0 ≤ Int.ofNat i ∧ Int.ofNat i < ↑(Cm.mn (Mg.c m))) ∧ True ∧ (0 + k ≤ k ∧ True ∧ k + 1 ≤
  140737488355328 ∧ (3 * (k + 1) + 1536) * 8 ≤ 562949953421312) ∧ rg (Int.ofNat i + 1) ∧ Lf) := by unfold LD LQ; kernel_rfl
theorem cpE_lq (m : Mg) (F : Nat → Nat → CV) (k i : Nat) (h1 : decide (Int.ofNat i < Int.ofNat m.c.mn) = false) : LD Try.prog (loopAt Try.prog 17 0) 30 2 [(1, .p 0 0), (2, .p 1
  0), (3, .lr 2 1 0 k false), (4, .i .i64 (Int.ofNat i))] [some (mgO m), some mgZ, some (.rows 3 1 k F)] (Orc.f Orc.z) (.exit 0) [0, 1, 2] [(1, .p 0 0), (2, .p 1 0), (3, .lr 2
  1 0 k false)] [some (mgO m), some mgZ, some (.rows 3 1 k F)] 3 (fun Lf => True ∧ True ∧ decide (Int.ofNat i < Int.ofNat (Cm.mn (Mg.c m))) = false ∧ Lf)
  := by unfold LD LQ; kernel_rfl
theorem cpP_ (m : Mg) : cpP m := by
  unfold cpP mgW
  refine ⟨?_, trivial⟩
  simp [frzP, frzsP, isv, svN]
theorem cp_lp (m : Mg) (hm : m.c.mn ≤ 17592186044416) : LDoes Try.prog (loopAt Try.prog 17 0) 30 2 (mkT [(1, .p 0 0), (2, .p 1 0), (3, .l0), (4, .i .i64 0)]) [some (mgO m), some mgZ] (.exit 0) (mkT [(1, .p 0 0), (2, .p 1 0), (3, .lr 2 1 0 m.c.mn false)]) [some (mgO m), some mgZ, some (.rows 3 1 m.c.mn fun i _ => .i .i64 (m.c.mf i))] := by
  have key := loop_q (P := Try.prog) (c := loopAt Try.prog 17 0) (n := 30) (b := 2) (x := .exit 0) (l' := [(1, .p 0 0), (2, .p 1 0), (3, .lr 2 1 0 m.c.mn false)]) (objs' := [some (mgO m), some mgZ, some (.rows 3 1 m.c.mn fun i _ => .i .i64 (m.c.mf i))]) (D := Nat)
    (fun i : Nat => ([(1, .p 0 0), (2, .p 1 0), (3, .lr 2 1 0 i false), (4, .i .i64 (Int.ofNat i))], [some (mgO m), some mgZ, some (.rows 3 1 i fun i _ => .i .i64 (m.c.mf i))])) (fun i => m.c.mn - i) (fun i => i ≤ m.c.mn) (fun _ => by simp) ?_ 0 (Nat.zero_le _)
  · refine key.weak ⟨rfl, .inl rfl, rfl, .inl rfl, rfl, .inr ⟨rfl, .inl ⟨2, 1, 0, false, rfl⟩⟩, rfl, .inl rfl, trivial⟩ ?_
    refine ⟨.refl _, .refl _, ?_⟩
    intro o ho
    simp at ho; subst ho
    exact ⟨_, rfl, rfl⟩
  intro i hi
  by_cases e : i = m.c.mn
  · have h1 : decide (Int.ofNat i < Int.ofNat m.c.mn) = false := by simp; omega
    have := rd_out (I := fun i : Nat => ([(1, .p 0 0), (2, .p 1 0), (3, .lr 2 1 0 i false), (4, .i .i64 (Int.ofNat i))], [some (mgO m), some mgZ, some (.rows 3 1 i fun i _ => .i .i64 (m.c.mf i))])) (μ := fun i => m.c.mn - i) (inv := fun i => i ≤ m.c.mn) (d := i) (l' := [(1, .p 0 0), (2, .p 1 0), (3, .lr 2 1 0 m.c.mn false)]) (objs' := [some (mgO m), some mgZ, some (.rows 3 1 m.c.mn fun i _ => .i .i64 (m.c.mf i))]) (cpE_lq m (fun i _ => .i .i64 (m.c.mf i)) i i h1) (by repeat' first | exact trivial | exact h1 | exact rfl | apply And.intro) rfl rfl (by rw [← e]; exact .refl _) (by rw [← e]; exact .refl _)
    exact this
  · have hl : i < m.c.mn := by omega
    have h1 : decide (Int.ofNat i < Int.ofNat m.c.mn) = true := by simp; omega
    have bi : (0 : Int) ≤ Int.ofNat i ∧ Int.ofNat i < (↑(m.c.mn) : Int) := ⟨by simp, by simp; omega⟩
    have ri : rg (Int.ofNat i + 1) := ⟨by simp <;> omega, by simp <;> omega⟩
    have b1 : 0 + i ≤ i := by omega
    have b2 : i + 1 ≤ 140737488355328 := by omega
    have b3 : (3 * (i + 1) + 1536) * 8 ≤ 562949953421312 := by omega
    refine rd_nrm (cpR_lq m (fun i _ => .i .i64 (m.c.mf i)) i i h1) (by repeat' first | exact trivial | exact h1 | exact bi | exact ri | exact b1 | exact b2 | exact b3 | exact rfl | apply And.intro) (i + 1) hl (by show m.c.mn - (i + 1) < m.c.mn - i; omega) rfl ?_ ?_
    · rw [addN_eq]; exact .refl _
    · refine ⟨.refl _, .refl _, ?_, trivial⟩
      rw [addN_eq]
      refine OV.rowsW fun j c hj hc => CW.of ?_
      obtain rfl : c = 0 := by omega
      rw [appZ_i (k := .i64) (a := m.c.mf j) (b := m.c.mf i) rfl rfl]
      by_cases d : j < i
      · rw [if_pos d]
      · obtain rfl : j = i := by omega
        rw [if_neg d]
theorem mcp_con (m : Mg) (hm : m.c.mn ≤ 17592186044416) (hv : m.v.mn ≤ 17592186044416 ∧ m.v.sn ≤ 17592186044416 ∧ m.v.hn ≤ 5864062014805 ∧ m.v.dn ≤ 5864062014805) : Con Try.prog 17 [mgV m] [] (mgV m) [] := by
  refine Con.post (con_f (cp0_fq m) (cpP_ m) (by repeat' first | exact trivial | exact cp_lp m hm | exact c52_con m.v hv | exact rfl | apply And.intro)) (.agg ?_) trivial
  refine ⟨.refl _, .refl _, .refl _, .refl _, .refl _, .refl _, .refl _, .refl _, .refl _, .refl _, .refl _, .refl _, .refl _, .refl _, .refl _, .refl _, VW.sv fun i j hi hj => ?_, .refl _, .refl _, .refl _, .refl _, .refl _, .refl _, .refl _, .refl _, trivial⟩
  rw [shiftF_eq, Nat.zero_add]
theorem noneC_ov (o : Option AObj) : OV o none := .x fun x' h => by cases h
end Go.Proofs.Ck
